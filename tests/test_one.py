"""Point 5 (one)."""

import unittest

from asking import (GREATEST, are, ask, begins, comes, first_way, last, many_rules, may, meet, old, one, rule,
                    rule_calls, stands_of)


class One(unittest.TestCase):
    def test_each_colour(self):
        self.assertEqual(ask(are(1, 1, 1), one(0), one(1), one(2))[1:], [[1], [1], [1]])
        self.assertEqual(ask(are(4, 1, 1), one(0), one(1), one(2))[1:], [[1], [4], [4]])
        self.assertEqual(ask(are(2, 2, 0), one(0), one(1), one(2))[1:], [[-6], [-6], [2]])
        told = (rule(0, 0, 1, 1), rule(1, 1, 2, 2), rule(2, 2, 3, 3), rule(3, 3, 0, 0))
        self.assertEqual(ask(begins(4), *told, are(0, 2, 0, 0), one(0), one(1), one(2), one(3))[6:],
                         [[3], [0], [1], [2]])

    def test_one_that_is_there_already(self):
        for k in (2, 3, 4):
            for colour in range(k):
                stand = [0] * k
                stand[colour] = 5
                self.assertEqual(last(begins(k), are(*stand), one(colour)), [0])

    def test_no_chameleons(self):
        self.assertEqual(ask(one(0), one(1), one(2)), [[0]] * 3)
        self.assertEqual(ask(begins(2), one(0), one(1)), [[0]] * 3)
        self.assertEqual(ask(begins(4), rule(0, 1, 2, 3), one(0), one(1), one(2), one(3))[2:], [[0]] * 4)

    def test_it_cannot_come(self):
        self.assertEqual(ask(are(1, 2, 0), one(0), one(1), one(2))[1:], [[-6]] * 3)
        self.assertEqual(ask(are(4, 0, 0), one(0), one(1), one(2))[1:], [[0], [-6], [-6]])
        self.assertEqual(ask(begins(2), rule(0, 1, 1, 1), are(3, 4), one(0), one(1))[3:], [[-6], [3]])
        self.assertEqual(ask(begins(4), are(0, 1, 0, 1), one(0), one(1), one(3))[2:], [[-6]] * 3)

    def test_no_such_colour(self):
        for k in (2, 3, 4):
            stand = are(*[1] * k)
            self.assertEqual(ask(begins(k), one(k), stand, one(k), one(k + 1), one(GREATEST)),
                             [[0], [-1], [k], [-1], [-1], [-1]])

    def test_no_such_colour_is_told_ahead_of_cannot_come(self):
        self.assertEqual(ask(are(1, 2, 0), one(3), one(2))[1:], [[-1], [-6]])

    def test_behind_it_it_stands_as_before(self):
        for asked, answer in ((one(2), [2]), (one(0), [-6]), (one(3), [-1])):
            given = ask(are(2, 2, 0), asked, asked, may(), comes(), meet(0, 1), old())
            self.assertEqual(given, [[4], answer, answer, [1, 0, 1], [5], [1, 1, 2], [3]])
        self.assertEqual(ask(are(1, 2, 0), one(1), may(), meet(0, 1)), [[3], [-6], [1, 0, 1], [0, 1, 2]])

    def test_by_the_old_rule_just_if_two_leave_the_same_divided_by_three(self):
        for stand in stands_of(3, 7):
            left = {number % 3 for number in stand}
            given = ask(are(*stand), one(0), one(1), one(2))[1:]
            self.assertEqual(any(answer[0] >= 0 for answer in given), len(left) < 3, stand)

    def test_many_rules(self):
        for k, step, stand in ((2, 1, (3, 2)), (3, 499, (2, 1, 3)), (4, 299792458, (2, 1, 3, 1))):
            for becomes in many_rules(k, step):
                for colour in range(k):
                    wanted = tuple(sum(stand) if other == colour else 0 for other in range(k))
                    way = first_way(becomes, stand, wanted)
                    self.assertEqual(last(begins(k), *rule_calls(becomes), are(*stand), one(colour)),
                                     [-6 if way is None else len(way)])


if __name__ == "__main__":
    unittest.main()
