"""Point 3 (are)."""

import unittest

from asking import GREATEST, are, ask, begins, last, meet, rule, stands_of


class Are(unittest.TestCase):
    def test_how_many_together(self):
        self.assertEqual(ask(are(1, 2, 3), are(0, 0, 0), are(0, 0, 1)), [[6], [0], [1]])

    def test_7_together_are_not_too_many(self):
        self.assertEqual(ask(are(7, 0, 0), are(0, 7, 0), are(3, 2, 2)), [[7], [7], [7]])
        self.assertEqual(ask(begins(2), are(0, 7), are(3, 4)), [[0], [7], [7]])
        self.assertEqual(ask(begins(4), are(0, 0, 0, 7), are(2, 2, 2, 1)), [[0], [7], [7]])

    def test_8_together_are_too_many(self):
        self.assertEqual(ask(are(8, 0, 0), are(0, 0, 8), are(3, 3, 2)), [[-1], [-1], [-1]])
        self.assertEqual(ask(begins(2), are(1, 7), are(4, 4)), [[0], [-1], [-1]])
        self.assertEqual(ask(begins(4), are(7, 0, 0, 1), are(2, 2, 2, 2)), [[0], [-1], [-1]])

    def test_every_stand_up_to_9_together(self):
        for k in (2, 3, 4):
            for stand in stands_of(k, 9):
                together = sum(stand)
                self.assertEqual(last(begins(k), are(*stand)), [together if together <= 7 else -1])

    def test_great_numbers(self):
        self.assertEqual(ask(are(GREATEST, 0, 0), are(0, 0, GREATEST), are(GREATEST, GREATEST, GREATEST)), [[-1]] * 3)
        # Numbers that would come to 0 or 1, were they cut off behind 32 bits.
        self.assertEqual(ask(are(GREATEST, 1, 0), are(GREATEST, 1, 1)), [[-1], [-1]])

    def test_not_as_many_numbers_as_colours(self):
        self.assertEqual(ask(are(), are(1), are(1, 1), are(1, 1, 1, 1)), [[-1]] * 4)
        self.assertEqual(ask(are(0), are(0, 0), are(0, 0, 0, 0), are(*[0] * 40)), [[-1]] * 4)
        self.assertEqual(ask(are(*[GREATEST] * 40), are(0, 0, 0)), [[-1], [0]])
        self.assertEqual(ask(begins(2), are(), are(1), are(1, 1, 0)), [[0], [-1], [-1], [-1]])
        self.assertEqual(ask(begins(4), are(), are(1, 1, 1), are(1, 1, 1, 1, 0)), [[0], [-1], [-1], [-1]])

    def test_what_stood_before_is_no_more(self):
        self.assertEqual(last(are(3, 2, 1), are(1, 1, 0), meet(0, 1)), [0, 0, 2])
        self.assertEqual(last(are(3, 2, 1), are(0, 0, 0), meet(0, 1)), [-2])
        self.assertEqual(last(are(7, 0, 0), are(0, 0, 7)), [7])

    def test_behind_a_refusal_it_stands_as_before(self):
        for wrong in (are(), are(1, 1), are(1, 1, 1, 1), are(8, 0, 0), are(GREATEST, GREATEST, GREATEST)):
            self.assertEqual(ask(are(3, 2, 1), wrong, meet(0, 1)), [[6], [-1], [2, 1, 3]])

    def test_the_rules_stay(self):
        self.assertEqual(ask(rule(0, 0, 1, 2), are(2, 0, 0), meet(0, 0), are(1, 1, 0), meet(0, 1))[1:],
                         [[2], [0, 1, 1], [2], [0, 0, 2]])


if __name__ == "__main__":
    unittest.main()
