"""The call may."""

import unittest

from asking import are, ask, begins, last, may, meet, old, rule, stands_of


class May(unittest.TestCase):
    def test_none_possible(self):
        self.assertEqual(ask(may(), are(7, 0, 0), may()), [[0], [7], [0]])
        self.assertEqual(last(begins(4), are(2, 2, 2, 1), may()), [0])

    def test_one(self):
        self.assertEqual(last(are(1, 0, 1), may()), [1, 0, 2])
        self.assertEqual(last(begins(2), rule(0, 1, 1, 1), are(3, 4), may()), [1, 0, 1])

    def test_several_in_their_order(self):
        told = [rule(3, 3, 0, 0), rule(2, 1, 0, 0), rule(3, 0, 1, 1), rule(1, 1, 0, 0), rule(0, 2, 1, 1)]
        self.assertEqual(last(begins(4), *told, are(1, 2, 1, 2), may()), [5, 0, 2, 0, 3, 1, 1, 1, 2, 3, 3])

    def test_every_meeting_of_four_colours(self):
        # 7 together can't be two of each of four colours: colour 3 has one alone.
        told = [rule(a, b, 3 - a, 3 - a) for a in range(4) for b in range(a, 4)]
        self.assertEqual(last(begins(4), *told, are(2, 2, 2, 1), may()),
                         [9, 0, 0, 0, 1, 0, 2, 0, 3, 1, 1, 1, 2, 1, 3, 2, 2, 2, 3])

    def test_a_and_b_the_same_with_one_and_with_two_there(self):
        changes = (begins(2), rule(1, 1, 0, 0))
        self.assertEqual(last(*changes, are(0, 0), may()), [0])
        self.assertEqual(last(*changes, are(0, 1), may()), [0])
        self.assertEqual(last(*changes, are(0, 2), may()), [1, 1, 1])
        self.assertEqual(last(*changes, are(4, 3), may()), [1, 1, 1])

    def test_a_rule_by_which_nothing_changes(self):
        self.assertEqual(last(are(2, 2, 2), rule(2, 0, 2, 0), may()), [2, 0, 1, 1, 2])

    def test_it_changes_nothing(self):
        given = ask(are(2, 1, 0), may(), may(), meet(0, 1), may(), old())
        self.assertEqual(given, [[3], [1, 0, 1], [1, 0, 1], [1, 0, 2], [1, 0, 2], [3]])

    def test_what_may_meet_does_and_nothing_else(self):
        rules = {
            2: (rule(0, 0, 0, 1), rule(0, 1, 1, 1)),
            3: (old(), rule(1, 1, 0, 2)),
            4: (rule(0, 3, 1, 2), rule(1, 2, 0, 3), rule(2, 2, 3, 3), rule(3, 3, 3, 0)),
        }
        for k, told in rules.items():
            met = [(a, b) for a in range(k) for b in range(a, k)]
            for stand in stands_of(k, 7):
                island = (begins(k), *told, are(*stand))
                done = [pair for pair in met if last(*island, meet(*pair))[0] >= 0]
                told_by_may = [colour for pair in done for colour in pair]
                self.assertEqual(last(*island, may()), [len(done), *told_by_may])


if __name__ == "__main__":
    unittest.main()
