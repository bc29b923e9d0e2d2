"""Point 5 (always)."""

import unittest

from asking import (GREATEST, always, are, ask, begins, comes, how_far, last, many_rules, may, meet, old, rule,
                    rule_calls, stands_of, to, what_can_come)

ALL_TO_ONE = (begins(2), rule(0, 1, 1, 1), are(2, 1))
TO_AND_FRO = (begins(2), rule(0, 0, 0, 1), rule(1, 1, 0, 1))


class Always(unittest.TestCase):
    def test_every_way_leads_there(self):
        self.assertEqual(last(*ALL_TO_ONE, always(0, 3)), [1])
        self.assertEqual(last(are(1, 0, 1), always(0, 2, 0)), [1])

    def test_what_has_been_comes_again(self):
        self.assertEqual(last(*TO_AND_FRO, are(2, 1), always(2, 1)), [1])
        self.assertEqual(last(*TO_AND_FRO, are(2, 1), always(1, 2)), [1])
        self.assertEqual(last(are(1, 2, 0), always(1, 2, 0)), [1])

    def test_nothing_possible(self):
        self.assertEqual(ask(always(0, 0, 0), are(0, 7, 0), always(0, 7, 0)), [[1], [7], [1]])
        self.assertEqual(last(begins(4), are(2, 2, 2, 1), always(2, 2, 2, 1)), [1])

    def test_one_that_is_there_but_does_not_come_again(self):
        self.assertEqual(last(*ALL_TO_ONE, always(2, 1)), [0])
        self.assertEqual(last(*TO_AND_FRO, are(3, 0), always(3, 0)), [0])

    def test_one_that_can_come_now_but_not_from_every_stand_that_can_come(self):
        self.assertEqual(ask(*ALL_TO_ONE, to(1, 2), always(1, 2))[3:], [[1, 0, 1], [0]])
        two_ends = (begins(3), rule(0, 0, 1, 1), rule(0, 1, 2, 2), are(2, 1, 0))
        self.assertEqual(ask(*two_ends, to(0, 3, 0), always(0, 3, 0))[4:], [[1, 0, 0], [0]])
        self.assertEqual(ask(*two_ends, to(1, 0, 2), always(1, 0, 2))[4:], [[1, 0, 1], [0]])
        self.assertEqual(ask(are(1, 1, 1), to(3, 0, 0), always(3, 0, 0))[1:], [[1, 1, 2], [0]])

    def test_one_that_cannot_come_at_all(self):
        self.assertEqual(last(*ALL_TO_ONE, always(3, 0)), [0])
        self.assertEqual(last(*TO_AND_FRO, are(2, 1), always(3, 0)), [0])
        self.assertEqual(last(are(1, 2, 0), always(3, 0, 0)), [0])
        self.assertEqual(last(begins(4), are(1, 1, 1, 1), always(4, 0, 0, 0)), [0])

    def test_not_as_many_numbers_as_colours(self):
        for wrong in ((), (0,), (0, 0), (0, 0, 0, 0), (0,) * 40):
            self.assertEqual(last(always(*wrong)), [-1])
        for wrong in ((), (3,), (1, 2), (1, 1, 1, 0)):
            self.assertEqual(last(are(1, 1, 1), always(*wrong)), [-1])
        self.assertEqual(ask(begins(2), are(1, 2), always(1, 2, 0), always(3))[2:], [[-1], [-1]])
        self.assertEqual(ask(begins(4), are(1, 2, 0, 0), always(1, 2, 0), always(1, 2, 0, 0, 0))[2:], [[-1], [-1]])

    def test_not_as_many_chameleons_together(self):
        for wrong in ((1, 1, 0), (1, 1, 2), (0, 0, 0), (4, 0, 0)):
            self.assertEqual(last(are(1, 1, 1), always(*wrong)), [-1])
        self.assertEqual(ask(always(1, 0, 0), always(0, 0, 7)), [[-1], [-1]])

    def test_great_numbers(self):
        for wrong in ((GREATEST, 0, 0), (0, 0, GREATEST), (GREATEST,) * 3, (GREATEST,) * 40, (GREATEST, 3, 0)):
            self.assertEqual(last(are(1, 1, 0), always(*wrong)), [-1])

    def test_behind_it_it_stands_as_before(self):
        for asked, answer in ((always(0, 0, 4), [1]), (always(2, 2, 0), [0]), (always(0, 1, 3), [0]),
                              (always(1, 1, 1), [-1]), (always(4), [-1])):
            given = ask(are(2, 2, 0), asked, asked, may(), comes(), meet(0, 1), old())
            self.assertEqual(given, [[4], answer, answer, [1, 0, 1], [5], [1, 1, 2], [3]])
        self.assertEqual(ask(are(1, 2, 0), always(0, 1, 2), may(), meet(0, 1)), [[3], [1], [1, 0, 1], [0, 1, 2]])

    def hold_against_the_island_told_over(self, becomes, stand, wanted):
        far = how_far(becomes, wanted)
        told = 1 if all(now in far for now in what_can_come(becomes, stand)) else 0
        self.assertEqual(last(begins(len(stand)), *rule_calls(becomes), are(*stand), always(*wanted)), [told])

    def test_every_rule_of_two_colours(self):
        for becomes in many_rules(2, 1):
            for stand in ((3, 2), (1, 3), (4, 0)):
                for wanted in stands_of(2, sum(stand)):
                    if sum(wanted) == sum(stand):
                        self.hold_against_the_island_told_over(becomes, stand, wanted)

    def test_many_rules_of_three_colours(self):
        for becomes in many_rules(3, 997):
            for stand, wanted in (((2, 2, 2), (0, 6, 0)), ((1, 2, 1), (1, 2, 1)), ((4, 1, 2), (1, 3, 3))):
                self.hold_against_the_island_told_over(becomes, stand, wanted)

    def test_many_rules_of_four_colours(self):
        for becomes in many_rules(4, 149896229):
            for stand, wanted in (((1, 1, 1, 1), (0, 2, 0, 2)), ((2, 2, 2, 1), (1, 1, 1, 4))):
                self.hold_against_the_island_told_over(becomes, stand, wanted)


if __name__ == "__main__":
    unittest.main()
