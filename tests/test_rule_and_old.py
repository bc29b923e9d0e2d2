"""Point 2 (rule, old)."""

import unittest

from asking import GREATEST, are, ask, begins, last, may, meet, old, rule


class Rule(unittest.TestCase):
    def test_a_and_b_told_in_either_order(self):
        for a, b in ((0, 2), (2, 0)):
            given = ask(begins(3), rule(a, b, 1, 1), are(1, 0, 1), may(), meet(0, 2))
            self.assertEqual(given[1:], [[1], [2], [1, 0, 2], [0, 2, 0]])

    def test_c_and_d_told_in_either_order(self):
        for c, d in ((1, 3), (3, 1)):
            given = ask(begins(4), rule(0, 0, c, d), are(2, 0, 0, 0), may(), meet(0, 0))
            self.assertEqual(given[1:], [[1], [2], [1, 0, 0], [0, 1, 0, 1]])

    def test_a_the_same_as_b(self):
        given = ask(begins(2), rule(1, 1, 0, 0), are(0, 3), meet(1, 1))
        self.assertEqual(given[1:], [[1], [3], [2, 1]])

    def test_c_is_a_or_d_is_b_but_not_both(self):
        self.assertEqual(last(begins(3), rule(0, 1, 0, 2)), [1])
        self.assertEqual(last(begins(3), rule(1, 2, 0, 2)), [1])
        self.assertEqual(last(begins(3), rule(0, 1, 0, 2), are(1, 1, 0), meet(0, 1)), [1, 0, 1])
        self.assertEqual(last(begins(3), rule(1, 2, 0, 2), are(0, 1, 1), meet(1, 2)), [1, 0, 1])

    def test_a_rule_by_which_nothing_changes(self):
        for a, b in ((0, 1), (1, 0)):
            for c, d in ((0, 1), (1, 0)):
                given = ask(rule(a, b, c, d), are(1, 1, 0), may(), meet(0, 1))
                self.assertEqual(given, [[2], [2], [0], [-4]])
        self.assertEqual(last(begins(2), rule(0, 1, 1, 0)), [0])

    def test_a_rule_told_anew(self):
        given = ask(begins(2), rule(0, 1, 0, 0), rule(1, 0, 1, 1), are(3, 2), meet(0, 1), rule(0, 1, 0, 1), may())
        self.assertEqual(given[1:], [[1], [1], [5], [2, 3], [0], [0]])

    def test_how_many_rules_change_something(self):
        given = ask(begins(4), rule(0, 0, 1, 1), rule(0, 1, 0, 1), rule(3, 2, 0, 0), rule(1, 3, 3, 2),
                    rule(2, 3, 1, 1), rule(0, 0, 0, 0))
        self.assertEqual(given[1:], [[1], [1], [2], [3], [3], [2]])

    def test_every_rule_of_four_colours(self):
        told = [rule(a, b, 3 - a, 3 - a) for a in range(4) for b in range(a, 4)]
        self.assertEqual(ask(begins(4), *told)[1:], [[count] for count in range(1, 11)])

    def test_other_rules_stay(self):
        given = ask(rule(1, 1, 0, 2), are(2, 2, 2), may(), meet(0, 1), meet(1, 2), meet(0, 2))
        self.assertEqual(given, [[4], [6], [4, 0, 1, 0, 2, 1, 1, 1, 2], [1, 1, 4], [3, 0, 3], [2, 2, 2]])

    def test_the_stand_stays(self):
        self.assertEqual(last(are(3, 1, 2), rule(0, 0, 1, 2), meet(0, 0)), [1, 2, 3])

    def test_no_such_colour(self):
        for k in (2, 3, 4):
            for place in range(4):
                for wrong in (k, k + 1, GREATEST):
                    told = [0, 1, 1, 0]
                    told[place] = wrong
                    self.assertEqual(last(begins(k), rule(*told)), [-1])
        self.assertEqual(ask(rule(GREATEST, GREATEST, GREATEST, GREATEST)), [[-1]])

    def test_all_is_as_it_was_behind_a_refusal(self):
        for told in ((0, 3, 1, 1), (3, 1, 1, 1), (0, 1, 3, 1), (0, 1, 1, GREATEST)):
            given = ask(are(2, 1, 1), rule(*told), may(), meet(0, 1), rule(2, 2, 2, 2))
            self.assertEqual(given[1:], [[-1], [3, 0, 1, 0, 2, 1, 2], [1, 0, 3], [3]])


class Old(unittest.TestCase):
    def test_with_three_colours(self):
        given = ask(begins(3), old(), are(2, 2, 2), may(), meet(0, 1), meet(0, 2), meet(2, 1), meet(2, 2))
        self.assertEqual(given[1:], [[3], [6], [3, 0, 1, 0, 2, 1, 2], [1, 1, 4], [0, 3, 3], [2, 2, 2], [-4]])

    def test_at_the_beginning(self):
        self.assertEqual(ask(old(), may()), [[3], [0]])

    def test_with_two_and_with_four(self):
        self.assertEqual(ask(begins(2), old()), [[0], [-6]])
        self.assertEqual(ask(begins(4), old()), [[0], [-6]])

    def test_all_is_as_it_was_behind_a_refusal(self):
        given = ask(begins(2), rule(0, 1, 0, 0), are(2, 1), old(), may(), meet(0, 1), rule(0, 0, 0, 0))
        self.assertEqual(given[3:], [[-6], [1, 0, 1], [3, 0], [1]])
        given = ask(begins(4), rule(0, 3, 1, 2), are(1, 0, 0, 1), old(), may(), meet(0, 3), rule(0, 0, 0, 0))
        self.assertEqual(given[3:], [[-6], [1, 0, 3], [0, 1, 1, 0], [1]])

    def test_behind_rules_that_were_changed(self):
        given = ask(rule(0, 0, 1, 1), rule(0, 1, 0, 1), rule(1, 2, 1, 1), are(2, 2, 2), old(), may(),
                    meet(0, 0), meet(0, 1), meet(1, 2))
        self.assertEqual(given[:4], [[4], [3], [3], [6]])
        self.assertEqual(given[4:], [[3], [3, 0, 1, 0, 2, 1, 2], [-4], [1, 1, 4], [3, 0, 3]])

    def test_rules_told_behind_it_hold(self):
        self.assertEqual(last(old(), rule(0, 1, 0, 0), are(1, 1, 0), meet(0, 1)), [2, 0, 0])
        self.assertEqual(ask(rule(0, 1, 0, 1), old(), rule(1, 1, 0, 0), old()), [[2], [3], [4], [3]])


if __name__ == "__main__":
    unittest.main()
