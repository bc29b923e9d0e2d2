"""Point 4 (meet)."""

import unittest

from asking import GREATEST, are, ask, begins, last, meet, rule


class Meet(unittest.TestCase):
    def test_told_in_either_order(self):
        self.assertEqual(last(are(3, 2, 1), meet(0, 1)), [2, 1, 3])
        self.assertEqual(last(are(3, 2, 1), meet(1, 0)), [2, 1, 3])
        self.assertEqual(last(begins(4), rule(1, 3, 0, 2), are(0, 1, 0, 1), meet(3, 1)), [1, 0, 1, 0])

    def test_one_of_each_is_enough(self):
        self.assertEqual(last(are(1, 0, 1), meet(0, 2)), [0, 2, 0])

    def test_two_alike_there(self):
        self.assertEqual(last(begins(2), rule(0, 0, 1, 1), are(2, 0), meet(0, 0)), [0, 2])
        self.assertEqual(last(begins(2), rule(0, 0, 0, 1), are(2, 3), meet(0, 0)), [1, 4])

    def test_only_one_of_two_alike_there(self):
        self.assertEqual(last(begins(2), rule(0, 0, 1, 1), are(1, 5), meet(0, 0)), [-2])
        self.assertEqual(last(begins(2), rule(0, 0, 1, 1), are(0, 5), meet(0, 0)), [-2])

    def test_k_numbers(self):
        for k in (2, 3, 4):
            self.assertEqual(last(begins(k), rule(0, 1, 1, 1), are(*[1] * k), meet(0, 1)), [0, 2, 1, 1][:k])

    def test_meetings_one_behind_another(self):
        given = ask(are(1, 2, 4), meet(0, 2), meet(2, 1), meet(1, 0), meet(0, 2), meet(0, 2))
        self.assertEqual(given[1:], [[0, 4, 3], [2, 3, 2], [1, 2, 4], [0, 4, 3], [-2]])

    def test_changed_to_one_that_met(self):
        self.assertEqual(last(begins(3), rule(0, 1, 0, 2), are(1, 1, 0), meet(1, 0)), [1, 0, 1])
        self.assertEqual(last(begins(3), rule(0, 2, 2, 2), are(2, 1, 1), meet(2, 0)), [1, 1, 2])

    def test_no_such_colour(self):
        for k in (2, 3, 4):
            for wrong in (k, k + 1, GREATEST):
                stand = are(*[1] * k)
                self.assertEqual(ask(begins(k), stand, meet(wrong, 0), meet(0, wrong), meet(wrong, wrong))[2:],
                                 [[-1]] * 3)

    def test_they_are_not_there(self):
        self.assertEqual(ask(are(0, 3, 3), meet(0, 1), meet(2, 0)), [[6], [-2], [-2]])
        self.assertEqual(ask(are(3, 0, 3), meet(0, 1), meet(2, 1)), [[6], [-2], [-2]])
        self.assertEqual(ask(are(3, 3, 0), meet(0, 2), meet(2, 1)), [[6], [-2], [-2]])

    def test_nothing_would_change(self):
        self.assertEqual(last(are(2, 0, 0), meet(0, 0)), [-4])
        self.assertEqual(ask(rule(0, 1, 1, 0), are(1, 1, 0), meet(0, 1), meet(1, 0))[2:], [[-4], [-4]])

    def test_no_such_colour_is_told_first(self):
        self.assertEqual(ask(meet(0, 3), meet(3, 3)), [[-1], [-1]])
        self.assertEqual(ask(begins(2), meet(2, 2), meet(GREATEST, 0)), [[0], [-1], [-1]])

    def test_not_there_is_told_ahead_of_nothing_would_change(self):
        self.assertEqual(ask(meet(1, 1), are(0, 1, 0), meet(1, 1)), [[-2], [1], [-2]])
        self.assertEqual(last(begins(4), are(3, 0, 0, 0), meet(0, 1)), [-2])

    def test_all_is_as_it_was_behind_a_refusal(self):
        for wrong, number in ((meet(0, 3), -1), (meet(2, 1), -2), (meet(2, 2), -2), (meet(0, 0), -4)):
            given = ask(are(4, 3, 0), wrong, meet(0, 1), rule(0, 0, 0, 0))
            self.assertEqual(given, [[7], [number], [3, 2, 2], [3]])


if __name__ == "__main__":
    unittest.main()
