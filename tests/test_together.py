"""All calls in one list, in any order, and as many of them as there may be."""

import time
import unittest

from asking import (GREATEST, always, are, ask, begins, comes, first_way, kept, last, many_rules, may, meet, old, one,
                    pairs_of, rests, rule, rule_calls, to, what_can_come)
from chameleons.island import answers

FEW_SECONDS = 5

# By this rule every stand of 7 in four colours can come from 7 of colour 0.
ALL_CAN_COME = {(0, 0): (0, 1), (1, 1): (1, 2), (2, 2): (2, 3), (3, 3): (0, 3), (0, 1): (1, 1), (1, 2): (2, 2),
                (2, 3): (3, 3), (0, 2): (0, 0), (0, 3): (0, 0), (1, 3): (1, 1)}


class ChangedBefore(unittest.TestCase):
    def test_begins(self):
        # Nobody is there and nobody changes, whatever was before.
        given = ask(are(1, 1, 1), begins(4), to(0, 0, 0, 0), to(1, 1, 1, 0), to(0, 0, 0), one(3), comes(), rests(),
                    always(0, 0, 0, 0), always(1, 1, 1), kept(2), are(1, 1, 1, 0), comes(), rests())
        self.assertEqual(given, [[3], [0], [0], [-1], [-1], [0], [1], [1, 0, 0, 0, 0],
                                 [1], [-1], [16, 0, 0, 0, 1], [3], [1], [1, 1, 1, 1, 0]])

    def test_begins_that_is_refused(self):
        given = ask(are(1, 1, 1), begins(5), to(3, 0, 0), one(2), comes(), rests(), always(1, 1, 1), kept(3))
        self.assertEqual(given, [[3], [-1], [1, 1, 2], [1], [4], [3, 0, 0, 3], [0], [9, 0, 1, 2]])

    def test_rule(self):
        # 0 and 1 stay now: from (1, 1, 1) one meets 0 2 or 1 2 alone.
        given = ask(are(1, 1, 1), rule(1, 0, 0, 1), to(0, 0, 3), to(0, 3, 0), one(2), one(0), comes(), rests(),
                    always(3, 0, 0), kept(3), kept(2))
        self.assertEqual(given, [[3], [2], [-6], [1, 0, 2], [-6], [1], [3], [2, 0, 3, 0], [0], [9, 0, 1, 2], [2]])

    def test_a_rule_told_again(self):
        given = ask(begins(2), are(2, 2), rule(0, 1, 1, 1), one(1), one(0), kept(2), rule(0, 1, 0, 0), one(1), one(0),
                    comes(), rule(0, 1, 1, 0), comes(), rests(), kept(2))
        self.assertEqual(given, [[0], [4], [1], [2], [-6], [2], [1], [-6], [2],
                                 [3], [0], [1], [1, 2, 2], [4, 0, 1]])

    def test_old(self):
        given = ask(begins(3), are(1, 1, 1), comes(), kept(2), old(), comes(), kept(2), to(3, 0, 0), rests())
        self.assertEqual(given, [[0], [3], [1], [8, 0, 0, 1], [3], [4], [2], [1, 1, 2], [3, 0, 0, 3]])

    def test_are(self):
        given = ask(are(1, 1, 1), comes(), are(1, 2, 0), comes(), one(0), to(0, 1, 2), to(1, 1, 1), rests(),
                    are(8, 0, 0), always(0, 1, 2), comes(), are(2, 2, 2), one(1), rests())
        self.assertEqual(given, [[3], [4], [3], [3], [-6], [1, 0, 1], [-6], [0],
                                 [-1], [1], [3], [6], [2], [3, 0, 0, 6]])

    def test_meet(self):
        given = ask(are(2, 2, 0), one(2), meet(1, 0), one(2), to(2, 2, 0), meet(0, 1), one(2), to(2, 2, 0), comes(),
                    rests(), always(0, 0, 4), meet(0, 1), comes())
        self.assertEqual(given, [[4], [2], [1, 1, 2], [1], [2, 0, 2, 1, 2], [0, 0, 4], [0], [-6], [1],
                                 [1, 0, 0, 4], [1], [-2], [1]])

    def test_each_meeting_of_a_way_leaves_one_fewer(self):
        for becomes in many_rules(3, 997):
            stand, wanted = (2, 1, 2), (1, 1, 3)
            way = first_way(becomes, stand, wanted) or []
            calls = [begins(3), *rule_calls(becomes), are(*stand)]
            for left in range(len(way), 0, -1):
                self.assertEqual(last(*calls, to(*wanted))[0], left)
                calls.append(meet(*way[len(way) - left]))
            if way:
                self.assertEqual(last(*calls, to(*wanted)), [0])

    def test_a_refusal_ahead_of_each(self):
        asked = [to(3, 0, 0), one(2), comes(), rests(), always(3, 0, 0), kept(3), may()]
        right = ask(are(1, 1, 1), *asked)[1:]
        for wrong in (begins(1), rule(0, 1, 0, 3), are(1, 1), are(GREATEST, 0, 0), meet(0, 3), meet(0, 0), to(1, 1),
                      to(2, 1, 0), one(3), always(1, 1, 2), kept(10)):
            self.assertLess(last(are(1, 1, 1), wrong)[0], 0)
            self.assertEqual(ask(are(1, 1, 1), wrong, *asked)[2:], right)


class AsManyAsThereMayBe(unittest.TestCase):
    def hold_in_a_few_seconds(self, calls):
        self.assertEqual(len(calls), 40)
        flat = [number for call in calls for number in call]
        handed_in = list(flat)
        began = time.monotonic()
        first = answers(flat)
        self.assertLess(time.monotonic() - began, FEW_SECONDS)
        self.assertEqual(flat, handed_in)
        self.assertEqual(answers(flat), first)
        self.assertEqual(flat, handed_in)
        return ask(*calls)

    def island(self):
        return [begins(4), *rule_calls(ALL_CAN_COME), are(7, 0, 0, 0)]

    def test_to_one_comes_and_rests_and_always(self):
        asked = [to(0, 0, 0, 7), one(3), comes(), rests()] * 3 + [always(0, 7, 0, 0), always(0, 0, 0, 7)]
        given = self.hold_in_a_few_seconds(self.island() + asked + [kept(9)] * 14)
        way = first_way(ALL_CAN_COME, (7, 0, 0, 0), (0, 0, 0, 7))
        flat = [len(way), *[colour for pair in way for colour in pair]]
        self.assertEqual(given[12:], [flat, [len(way)], [120], [0]] * 3 + [[1], [1]] + [[9]] * 14)

    def test_twelve_of_each(self):
        for asked in (to(0, 0, 0, 7), one(2), comes(), rests()):
            given = self.hold_in_a_few_seconds(self.island() + [asked] * 12 + [always(1, 2, 2, 2)] * 2 + [may()] * 14)
            alone = last(*self.island(), asked)
            self.assertEqual(given[12:], [alone] * 12 + [[1]] * 2 + [[1, 0, 0]] * 14)

    def test_kept_where_nobody_changes(self):
        given = self.hold_in_a_few_seconds([begins(4)] + [kept(9)] * 39)
        self.assertEqual(given, [[0]] + [[6561, 0, 0, 0, 1]] * 39)

    def test_kept_where_all_is_gone_through(self):
        # 0 and 2 weigh the same modulo 4, and so do 1 and 3: modulo 8 both do, or neither does.
        told = [rule(a, b, (a + 2) % 4, (b + 2) % 4) for a, b in pairs_of(4)]
        given = self.hold_in_a_few_seconds([begins(4), *told] + [kept(8)] * 29)
        self.assertEqual(given[11:], [[128, 0, 0, 4, 4]] * 29)

    def test_all_that_can_come_is_told_over(self):
        self.assertEqual(len(what_can_come(ALL_CAN_COME, (7, 0, 0, 0))), 120)


if __name__ == "__main__":
    unittest.main()
