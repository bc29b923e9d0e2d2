"""Point 6 (kept)."""

import itertools
import unittest

from asking import GREATEST, are, ask, begins, comes, kept, last, many_rules, may, meet, old, rule, rule_calls


def rows_kept(becomes, k, m):
    """The kept rows, in order, told over again."""
    return [row for row in itertools.product(range(m), repeat=k)
            if all((row[a] + row[b] - row[c] - row[d]) % m == 0 for (a, b), (c, d) in becomes.items())]


class Kept(unittest.TestCase):
    def test_the_old_rule_modulo_3(self):
        self.assertEqual(last(kept(3)), [9, 0, 1, 2])

    def test_the_old_rule_modulo_others(self):
        self.assertEqual(ask(*[kept(m) for m in (2, 4, 5, 7, 8)]), [[2], [4], [5], [7], [8]])
        self.assertEqual(ask(kept(6), kept(9)), [[18, 0, 2, 4], [27, 0, 3, 6]])

    def test_nobody_changes(self):
        self.assertEqual(ask(begins(2), kept(2), kept(3), kept(9)), [[0], [4, 0, 1], [9, 0, 1], [81, 0, 1]])
        self.assertEqual(ask(begins(3), kept(2), kept(9)), [[0], [8, 0, 0, 1], [729, 0, 0, 1]])
        self.assertEqual(ask(begins(4), kept(2), kept(9)), [[0], [16, 0, 0, 0, 1], [6561, 0, 0, 0, 1]])

    def test_only_rows_that_are_all_alike(self):
        for m in range(2, 10):
            self.assertEqual(last(begins(2), rule(0, 1, 1, 1), kept(m)), [m])
            self.assertEqual(last(begins(2), rule(0, 0, 0, 1), kept(m)), [m])
            self.assertEqual(last(begins(4), rule(0, 1, 1, 1), rule(1, 2, 1, 1), rule(3, 3, 2, 3), kept(m)), [m])

    def test_the_first_that_is_not_all_alike(self):
        self.assertEqual(ask(begins(2), rule(0, 0, 1, 1), kept(2), kept(3), kept(4), kept(6), kept(9))[2:],
                         [[4, 0, 1], [3], [8, 0, 2], [12, 0, 3], [9]])
        # 0 and 3 weigh the same, and so do 1 and 2.
        self.assertEqual(last(begins(4), rule(0, 3, 3, 3), rule(1, 2, 1, 1), kept(5)), [25, 0, 1, 1, 0])
        self.assertEqual(last(begins(4), rule(0, 1, 0, 0), rule(0, 2, 0, 0), kept(9)), [81, 0, 0, 0, 1])
        self.assertEqual(last(begins(4), rule(0, 1, 2, 3), kept(2)), [8, 0, 0, 1, 1])

    def test_two_alike_count_among_the_rules(self):
        self.assertEqual(last(begins(3), rule(2, 2, 0, 1), kept(2)), [4, 0, 0, 1])
        self.assertEqual(last(begins(3), rule(2, 2, 0, 1), kept(3)), [9, 0, 1, 2])

    def test_m_is_not_2_to_9(self):
        for k in (2, 3, 4):
            self.assertEqual(ask(begins(k), kept(0), kept(1), kept(10), kept(11), kept(GREATEST))[1:], [[-1]] * 5)
        self.assertEqual(ask(kept(1), kept(2), kept(9), kept(10)), [[-1], [2], [27, 0, 3, 6], [-1]])

    def test_however_many_there_are(self):
        self.assertEqual(ask(kept(3), are(1, 0, 0), kept(3), are(3, 2, 2), kept(3)),
                         [[9, 0, 1, 2], [1], [9, 0, 1, 2], [7], [9, 0, 1, 2]])

    def test_behind_it_it_stands_as_before(self):
        for asked, answer in ((kept(3), [9, 0, 1, 2]), (kept(2), [2]), (kept(1), [-1])):
            given = ask(are(2, 2, 0), asked, asked, may(), comes(), meet(0, 1), old())
            self.assertEqual(given, [[4], answer, answer, [1, 0, 1], [5], [1, 1, 2], [3]])

    def test_many_rules(self):
        for k, step, divisors in ((2, 1, range(2, 10)), (3, 997, (2, 3, 6, 9)), (4, 299792458, (2, 5))):
            for becomes in many_rules(k, step):
                for m in divisors:
                    rows = rows_kept(becomes, k, m)
                    unlike = [row for row in rows if len(set(row)) > 1] + [()]
                    self.assertEqual(last(begins(k), *rule_calls(becomes), kept(m)), [len(rows), *unlike[0]])

    def test_each_rule_of_four_colours_alone(self):
        for a, b, c, d in itertools.product(range(4), repeat=4):
            rows = rows_kept({(a, b): (c, d)}, 4, 4)
            unlike = [row for row in rows if len(set(row)) > 1] + [()]
            self.assertEqual(last(begins(4), rule(a, b, c, d), kept(4)), [len(rows), *unlike[0]])


if __name__ == "__main__":
    unittest.main()
