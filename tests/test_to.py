"""Point 5 (to)."""

import unittest

from asking import (GREATEST, are, ask, begins, comes, first_way, last, many_rules, may, meet, old, rule, rule_calls,
                    some_rules, stands_of, to)


class To(unittest.TestCase):
    def test_a_stand_that_is_there_already(self):
        self.assertEqual(last(are(3, 2, 1), to(3, 2, 1)), [0])
        self.assertEqual(last(begins(2), are(0, 7), to(0, 7)), [0])
        self.assertEqual(last(begins(4), rule(0, 0, 1, 1), rule(1, 1, 0, 0), are(2, 2, 2, 1), to(2, 2, 2, 1)), [0])

    def test_no_chameleons(self):
        self.assertEqual(last(to(0, 0, 0)), [0])
        self.assertEqual(last(begins(2), rule(0, 1, 1, 1), to(0, 0)), [0])
        self.assertEqual(last(begins(4), to(0, 0, 0, 0)), [0])

    def test_one_meeting(self):
        self.assertEqual(last(are(1, 1, 0), to(0, 0, 2)), [1, 0, 1])
        self.assertEqual(last(are(1, 1, 1), to(3, 0, 0)), [1, 1, 2])
        self.assertEqual(last(begins(2), rule(1, 1, 0, 0), are(5, 2), to(7, 0)), [1, 1, 1])

    def test_several_meetings(self):
        self.assertEqual(last(are(2, 2, 0), to(0, 0, 4)), [2, 0, 1, 0, 1])
        self.assertEqual(last(are(0, 1, 3), to(0, 4, 0)), [3, 1, 2, 0, 2, 0, 2])
        self.assertEqual(last(begins(2), rule(0, 1, 1, 1), are(6, 1), to(0, 7)), [6] + [0, 1] * 6)

    def test_the_first_of_several_ways(self):
        two_apart = (begins(4), rule(2, 2, 3, 3), rule(0, 0, 1, 1))
        self.assertEqual(last(*two_apart, are(2, 0, 2, 0), to(0, 2, 0, 2)), [2, 0, 0, 2, 2])
        self.assertEqual(last(*two_apart, are(2, 0, 4, 1), to(0, 2, 0, 5)), [3, 0, 0, 2, 2, 2, 2])

    def test_the_first_of_several_meetings_to_the_same_stand(self):
        alike = (begins(3), rule(1, 2, 2, 2), rule(0, 2, 1, 2), rule(0, 1, 1, 1), rule(0, 0, 0, 1))
        self.assertEqual(last(*alike, are(2, 0, 1), to(1, 1, 1)), [1, 0, 0])
        self.assertEqual(last(*alike, are(1, 1, 1), to(0, 2, 1)), [1, 0, 1])
        self.assertEqual(last(*alike, are(1, 0, 2), to(0, 1, 2)), [1, 0, 2])

    def test_where_ways_first_differ_the_earlier_meeting(self):
        # 0 1 leads to the end only by 2 3 then, and 0 2 by 0 1: the first meeting decides.
        told = (rule(0, 1, 0, 3), rule(0, 2, 1, 3), rule(2, 3, 3, 3), rule(1, 1, 3, 3))
        self.assertEqual(last(begins(4), *told, are(1, 1, 1, 0), to(1, 0, 0, 2)), [2, 0, 1, 2, 3])
        self.assertEqual(last(begins(4), *told, are(1, 1, 1, 0), to(0, 0, 0, 3)), [2, 0, 2, 1, 1])

    def test_fewer_meetings_ahead_of_an_earlier_one(self):
        told = (rule(0, 0, 0, 1), rule(1, 1, 1, 2), rule(0, 3, 2, 3))
        self.assertEqual(last(begins(4), *told, are(2, 1, 0, 1), to(1, 1, 1, 1)), [1, 0, 3])

    def test_it_cannot_come(self):
        self.assertEqual(ask(are(1, 2, 0), to(3, 0, 0), to(0, 3, 0), to(0, 0, 3))[1:], [[-6]] * 3)
        self.assertEqual(last(are(7, 0, 0), to(0, 7, 0)), [-6])
        self.assertEqual(last(begins(4), are(1, 1, 1, 1), to(0, 2, 1, 1)), [-6])
        # What has been doesn't come again by this rule.
        self.assertEqual(ask(begins(2), rule(0, 1, 1, 1), are(2, 2), meet(0, 1), to(2, 2), to(0, 4))[3:],
                         [[1, 3], [-6], [1, 0, 1]])

    def test_not_as_many_numbers_as_colours(self):
        self.assertEqual(ask(to(), to(0), to(0, 0), to(0, 0, 0, 0), to(*[0] * 40)), [[-1]] * 5)
        self.assertEqual(ask(are(1, 1, 1), to(), to(3), to(1, 2), to(1, 1, 1, 0))[1:], [[-1]] * 4)
        self.assertEqual(ask(begins(2), are(1, 2), to(), to(3), to(1, 2, 0))[2:], [[-1]] * 3)
        self.assertEqual(ask(begins(4), are(1, 2, 0, 0), to(), to(1, 2, 0), to(1, 2, 0, 0, 0))[2:], [[-1]] * 3)

    def test_not_as_many_chameleons_together(self):
        self.assertEqual(ask(are(1, 1, 1), to(1, 1, 0), to(1, 1, 2), to(0, 0, 0), to(4, 0, 0))[1:], [[-1]] * 4)
        self.assertEqual(ask(to(1, 0, 0), to(0, 0, 7)), [[-1], [-1]])
        self.assertEqual(ask(are(3, 2, 2), to(3, 3, 2), to(0, 6, 0))[1:], [[-1], [-1]])

    def test_great_numbers(self):
        self.assertEqual(ask(are(1, 1, 0), to(GREATEST, 0, 0), to(0, 0, GREATEST), to(*[GREATEST] * 3),
                             to(*[GREATEST] * 40))[1:], [[-1]] * 4)
        # Numbers that would come to 2 together, were they cut off behind 32 bits.
        self.assertEqual(ask(are(1, 1, 0), to(GREATEST, 3, 0), to(1, 2, GREATEST))[1:], [[-1], [-1]])

    def test_no_such_stand_is_told_ahead_of_cannot_come(self):
        self.assertEqual(ask(begins(3), are(2, 1, 0), to(1, 1, 0), to(0, 0, 4), to(3, 0))[2:], [[-1]] * 3)

    def test_behind_it_it_stands_as_before(self):
        for asked, answer in ((to(0, 0, 4), [2, 0, 1, 0, 1]), (to(2, 2, 0), [0]), (to(3, 0, 1), [2, 0, 1, 1, 2]),
                              (to(0, 1, 3), [-6]), (to(1, 1, 1), [-1]), (to(4), [-1])):
            given = ask(are(2, 2, 0), asked, asked, may(), comes(), meet(0, 1), old())
            self.assertEqual(given, [[4], answer, answer, [1, 0, 1], [5], [1, 1, 2], [3]])

    def test_the_way_leads_there_meeting_by_meeting(self):
        becomes = some_rules(4, 7391)
        island = (begins(4), *rule_calls(becomes), are(2, 2, 2, 1))
        gone = 0
        for stand in stands_of(4, 7):
            way = last(*island, to(*stand))
            if way[0] > 0:
                meetings = [meet(way[at], way[at + 1]) for at in range(1, len(way), 2)]
                self.assertEqual(len(meetings), way[0])
                self.assertEqual(last(*island, *meetings), list(stand))
                gone += 1
        self.assertGreater(gone, 10)

    def hold_against_the_island_told_over(self, becomes, stand, wanted):
        way = first_way(becomes, stand, wanted)
        told = [-6] if way is None else [len(way), *[colour for pair in way for colour in pair]]
        self.assertEqual(last(begins(len(stand)), *rule_calls(becomes), are(*stand), to(*wanted)), told)

    def test_every_rule_of_two_colours(self):
        for becomes in many_rules(2, 1):
            for stand in ((5, 2), (1, 3), (0, 4)):
                for wanted in stands_of(2, sum(stand)):
                    if sum(wanted) == sum(stand):
                        self.hold_against_the_island_told_over(becomes, stand, wanted)

    def test_many_rules_of_three_colours(self):
        for becomes in many_rules(3, 997):
            for stand, wanted in (((2, 2, 2), (0, 6, 0)), ((1, 2, 1), (2, 1, 1)), ((4, 1, 2), (1, 3, 3))):
                self.hold_against_the_island_told_over(becomes, stand, wanted)

    def test_many_rules_of_four_colours(self):
        for becomes in many_rules(4, 149896229):
            for stand, wanted in (((1, 1, 1, 1), (0, 2, 0, 2)), ((2, 2, 2, 1), (1, 1, 1, 4))):
                self.hold_against_the_island_told_over(becomes, stand, wanted)


if __name__ == "__main__":
    unittest.main()
