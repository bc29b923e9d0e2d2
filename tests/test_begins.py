"""Point 1 (begins), and the island at its beginning."""

import unittest

from asking import GREATEST, are, ask, begins, last, may, meet, old, rule


def pairs(k):
    return [(a, b) for a in range(k) for b in range(a, k)]


class AtTheBeginning(unittest.TestCase):
    def test_three_colours(self):
        self.assertEqual(last(are(1, 2, 3)), [6])
        self.assertEqual(last(are(1, 2)), [-1])
        self.assertEqual(last(are(1, 2, 3, 0)), [-1])
        self.assertEqual(last(meet(2, 2)), [-2])
        self.assertEqual(last(meet(0, 3)), [-1])

    def test_the_old_rule(self):
        self.assertEqual(last(are(2, 2, 2), may()), [3, 0, 1, 0, 2, 1, 2])
        self.assertEqual(last(are(2, 2, 2), meet(0, 1)), [1, 1, 4])
        self.assertEqual(last(are(2, 2, 2), meet(0, 2)), [1, 4, 1])
        self.assertEqual(last(are(2, 2, 2), meet(1, 2)), [4, 1, 1])
        for colour in range(3):
            self.assertEqual(last(are(2, 2, 2), meet(colour, colour)), [-4])
        self.assertEqual(last(rule(0, 0, 0, 0)), [3])

    def test_no_chameleons(self):
        self.assertEqual(last(may()), [0])
        for a, b in pairs(3):
            self.assertEqual(last(meet(a, b)), [-2])


class Begins(unittest.TestCase):
    def test_answers_0(self):
        for k in (2, 3, 4):
            self.assertEqual(ask(begins(k)), [[0]])

    def test_so_many_colours(self):
        for k in (2, 3, 4):
            for told in range(7):
                self.assertEqual(last(begins(k), are(*[1] * told)), [told] if told == k else [-1])
            self.assertEqual(last(begins(k), meet(k - 1, 0)), [-2])
            self.assertEqual(last(begins(k), meet(k, 0)), [-1])
            self.assertEqual(last(begins(k), rule(k - 1, k - 1, 0, 0)), [1])
            self.assertEqual(last(begins(k), rule(k, k, 0, 0)), [-1])

    def test_nobody_changes_by_any_meeting(self):
        for k in (2, 3, 4):
            for a, b in pairs(k):
                stand = [0] * k
                stand[a] += 1
                stand[b] += 1
                self.assertEqual(ask(begins(k), are(*stand), may(), meet(a, b))[2:], [[0], [-4]])
            self.assertEqual(last(begins(k), rule(0, 0, 0, 0)), [0])

    def test_no_rule_outlasts_it(self):
        self.assertEqual(last(rule(0, 0, 1, 1), begins(3), rule(1, 1, 1, 1)), [0])
        self.assertEqual(last(begins(4), rule(2, 3, 0, 0), begins(4), are(1, 1, 1, 1), may()), [0])

    def test_there_are_no_chameleons(self):
        for k in (2, 3, 4):
            for a, b in pairs(k):
                self.assertEqual(last(are(2, 2, 2), begins(k), meet(a, b)), [-2])
            self.assertEqual(last(are(2, 2, 2), begins(k), rule(0, 0, 1, 1), rule(0, 1, 1, 1), may()), [0])

    def test_refused(self):
        for k in (0, 1, 5, 6, GREATEST):
            self.assertEqual(ask(begins(k)), [[-1]])

    def test_all_is_as_it_was_behind_a_refusal(self):
        for k in (0, 1, 5, GREATEST):
            given = ask(rule(0, 0, 1, 2), are(3, 2, 1), begins(k), may(), meet(0, 0), rule(1, 1, 1, 1), are(1, 1, 1))
            self.assertEqual(given[2:], [[-1], [4, 0, 0, 0, 1, 0, 2, 1, 2], [1, 3, 2], [4], [3]])
            given = ask(begins(2), rule(0, 1, 1, 1), are(1, 4), begins(k), are(1, 1, 1), may(), old(), meet(1, 0))
            self.assertEqual(given[3:], [[-1], [-1], [1, 0, 1], [-6], [0, 5]])


if __name__ == "__main__":
    unittest.main()
