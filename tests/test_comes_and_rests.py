"""The calls comes and rests."""

import unittest

from asking import (are, ask, begins, comes, last, many_rules, may, meet, old, rests, rule, rule_calls, stands_of,
                    steps_from, what_can_come)


class Comes(unittest.TestCase):
    def test_nothing_possible(self):
        self.assertEqual(last(comes()), [1])
        self.assertEqual(last(are(7, 0, 0), comes()), [1])
        self.assertEqual(last(begins(4), are(2, 2, 2, 1), comes()), [1])
        self.assertEqual(last(begins(2), rule(0, 0, 1, 1), are(1, 0), comes()), [1])
        self.assertEqual(last(begins(2), rule(0, 0, 1, 1), comes()), [1])

    def test_the_old_rule(self):
        # (1, 0, 1) and (0, 2, 0).
        self.assertEqual(last(are(1, 0, 1), comes()), [2])
        # (1, 2, 0), (0, 1, 2) and (2, 0, 1), round and round.
        self.assertEqual(last(are(1, 2, 0), comes()), [3])
        # (1, 1, 1), (3, 0, 0), (0, 3, 0) and (0, 0, 3).
        self.assertEqual(last(are(1, 1, 1), comes()), [4])
        # (2, 2, 0), (1, 1, 2), (0, 0, 4), (0, 3, 1) and (3, 0, 1).
        self.assertEqual(last(are(2, 2, 0), comes()), [5])

    def test_one_behind_another(self):
        self.assertEqual(last(begins(2), rule(0, 1, 1, 1), are(6, 1), comes()), [7])
        self.assertEqual(last(begins(2), rule(0, 1, 1, 1), are(2, 5), comes()), [3])

    def test_what_has_been_comes_again(self):
        turning = (rule(0, 0, 1, 1), rule(1, 1, 2, 2), rule(2, 2, 0, 0))
        self.assertEqual(last(begins(3), *turning, are(2, 0, 0), comes()), [3])
        self.assertEqual(last(begins(2), rule(0, 0, 1, 1), rule(1, 1, 0, 0), are(2, 5), comes()), [4])

    def test_four_colours_with_7_together(self):
        # Two of 0 can change up to two times, two of 2 once: 3 times 2.
        self.assertEqual(last(begins(4), rule(0, 0, 1, 1), rule(2, 2, 3, 3), are(4, 0, 3, 0), comes()), [6])
        # By this rule every stand of 7 in four colours can come: 10 over 3.
        told = [rule(a, a, a, (a + 1) % 4) for a in range(4)]
        told += [rule(a, b, b, b) if b == a + 1 else rule(a, b, a, a) for a in range(4) for b in range(a + 1, 4)]
        self.assertEqual(last(begins(4), *told, are(7, 0, 0, 0), comes()), [120])

    def test_it_changes_nothing(self):
        self.assertEqual(ask(are(2, 2, 0), comes(), comes(), may(), meet(0, 1), old()),
                         [[4], [5], [5], [1, 0, 1], [1, 1, 2], [3]])

    def test_many_rules(self):
        for k, step, stand in ((2, 1, (3, 4)), (3, 499, (2, 2, 3)), (4, 99792458, (2, 1, 3, 1))):
            for becomes in many_rules(k, step):
                self.assertEqual(last(begins(k), *rule_calls(becomes), are(*stand), comes()),
                                 [len(what_can_come(becomes, stand))])

    def test_every_stand_of_three_colours(self):
        becomes = {(0, 1): (2, 2), (0, 2): (1, 1), (1, 2): (0, 0)}
        for stand in stands_of(3, 7):
            self.assertEqual(last(are(*stand), comes()), [len(what_can_come(becomes, stand))])


class Rests(unittest.TestCase):
    def test_none_at_rest(self):
        self.assertEqual(last(begins(2), rule(0, 0, 1, 1), rule(1, 1, 0, 0), are(2, 5), rests()), [0])
        turning = (rule(0, 0, 1, 1), rule(1, 1, 2, 2), rule(2, 2, 0, 0))
        self.assertEqual(last(begins(3), *turning, are(2, 0, 0), rests()), [0])
        self.assertEqual(last(are(1, 2, 0), rests()), [0])

    def test_the_stand_itself(self):
        self.assertEqual(last(are(0, 7, 0), rests()), [1, 0, 7, 0])
        self.assertEqual(last(begins(2), are(3, 2), rests()), [1, 3, 2])
        self.assertEqual(last(begins(4), are(2, 2, 2, 1), rests()), [1, 2, 2, 2, 1])

    def test_no_chameleons(self):
        self.assertEqual(last(rests()), [1, 0, 0, 0])
        self.assertEqual(last(begins(2), rests()), [1, 0, 0])
        self.assertEqual(last(begins(4), rule(0, 1, 1, 1), rests()), [1, 0, 0, 0, 0])

    def test_one_that_comes_later(self):
        self.assertEqual(last(begins(2), rule(0, 1, 1, 1), are(6, 1), rests()), [1, 0, 7])
        self.assertEqual(last(are(1, 0, 1), rests()), [1, 0, 2, 0])

    def test_several_the_fewest_of_colour_0_first(self):
        # By 0 0 comes (0, 3, 0), by 0 1 comes (1, 0, 2).
        self.assertEqual(last(begins(3), rule(0, 0, 1, 1), rule(0, 1, 2, 2), are(2, 1, 0), rests()), [2, 0, 3, 0])
        # By 0 1 comes (2, 0, 1), by 1 2 comes (1, 0, 2).
        self.assertEqual(last(begins(3), rule(0, 1, 0, 0), rule(1, 2, 2, 2), are(1, 1, 1), rests()), [2, 1, 0, 2])

    def test_several_with_as_many_of_colour_0_the_fewest_of_1_first(self):
        # By 0 1 comes (0, 2, 1), by 0 2 comes (0, 1, 2).
        self.assertEqual(last(begins(3), rule(0, 1, 1, 1), rule(0, 2, 2, 2), are(1, 1, 1), rests()), [2, 0, 1, 2])

    def test_several_with_as_many_of_0_and_1_the_fewest_of_2_first(self):
        told = (rule(0, 2, 2, 2), rule(0, 3, 3, 3))
        self.assertEqual(last(begins(4), *told, are(1, 3, 1, 1), rests()), [2, 0, 3, 1, 2])

    def test_the_old_rule(self):
        self.assertEqual(last(are(1, 1, 1), rests()), [3, 0, 0, 3])
        self.assertEqual(last(are(2, 2, 0), rests()), [1, 0, 0, 4])

    def test_it_changes_nothing(self):
        self.assertEqual(ask(are(2, 2, 0), rests(), rests(), may(), meet(0, 1), old()),
                         [[4], [1, 0, 0, 4], [1, 0, 0, 4], [1, 0, 1], [1, 1, 2], [3]])

    def test_many_rules(self):
        for k, step, stand in ((2, 1, (3, 4)), (3, 499, (2, 2, 3)), (4, 99792458, (2, 1, 3, 1))):
            for becomes in many_rules(k, step):
                resting = [now for now in what_can_come(becomes, stand) if not steps_from(becomes, now)]
                first = resting[0] if resting else ()
                self.assertEqual(last(begins(k), *rule_calls(becomes), are(*stand), rests()), [len(resting), *first])


if __name__ == "__main__":
    unittest.main()
