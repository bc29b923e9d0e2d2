"""How calls are handed in and answers given back: chameleons.island.answers."""

import contextlib
import inspect
import io
import unittest

from asking import GREATEST, always, are, begins, comes, kept, may, meet, old, one, rests, rule, to
from chameleons.island import answers

EVERY_CALL = [0, 3, 1, 0, 0, 1, 2, 2, 3, 3, 1, 2, 3, 4, 1, 0, 5,
              6, 3, 2, 0, 4, 7, 2, 8, 9, 10, 3, 2, 0, 4, 11, 3]


class Untouchable(list):
    """A list that can't be changed, not for a while either."""

    def refuse(self, *told, **named):
        raise AssertionError("the list that was handed in is changed")

    append = clear = extend = insert = pop = remove = reverse = sort = refuse
    __setitem__ = __delitem__ = __iadd__ = __imul__ = refuse


class Answers(unittest.TestCase):
    def test_its_one_argument(self):
        self.assertEqual(list(inspect.signature(answers).parameters), ["calls"])
        self.assertEqual(answers(calls=[2]), [1, 3])

    def test_one_call(self):
        self.assertEqual(answers([0, 4]), [1, 0])
        self.assertEqual(answers([1, 0, 0, 1, 1]), [1, 4])
        self.assertEqual(answers([2]), [1, 3])
        self.assertEqual(answers([3, 3, 1, 2, 3]), [1, 6])
        self.assertEqual(answers([4, 0, 1]), [1, -2])
        self.assertEqual(answers([5]), [1, 0])
        self.assertEqual(answers([6, 3, 0, 0, 0]), [1, 0])
        self.assertEqual(answers([7, 0]), [1, 0])
        self.assertEqual(answers([8]), [1, 1])
        self.assertEqual(answers([9]), [4, 1, 0, 0, 0])
        self.assertEqual(answers([10, 3, 0, 0, 0]), [1, 1])
        self.assertEqual(answers([11, 3]), [4, 9, 0, 1, 2])

    def test_several_calls(self):
        self.assertEqual(answers(EVERY_CALL), [1, 0, 1, 1, 1, 3, 1, 6, 3, 0, 1, 5, 3, 1, 1, 2,
                                               3, 1, 1, 2, 1, -6, 1, 9, 1, 0, 1, 1, 4, 9, 0, 1, 2])

    def test_a_refusal_is_its_number_alone(self):
        self.assertEqual(answers([0, 9, 1, 0, 0, 0, 3, 4, 0, 0, 4, 3, 0, 0, 2, 2]),
                         [1, -1, 1, -1, 1, -2, 1, -1, 1, 0, 1, -6])
        self.assertEqual(answers([3, 3, 2, 0, 0, 4, 0, 0, 5]), [1, 2, 1, -4, 1, 0])
        self.assertEqual(answers([3, 3, 2, 0, 0, 6, 3, 0, 2, 0, 6, 0, 7, 3, 7, 1, 10, 1, 2, 11, 10, 9]),
                         [1, 2, 1, -6, 1, -1, 1, -1, 1, -6, 1, -1, 1, -1, 4, 1, 2, 0, 0])

    def test_a_row_of_none_and_one_that_is_too_long(self):
        self.assertEqual(answers([3, 0, 5]), [1, -1, 1, 0])
        self.assertEqual(answers([3, 40] + [2] * 40 + [2]), [1, -1, 1, 3])
        for number in (6, 10):
            self.assertEqual(answers([number, 0, 5]), [1, -1, 1, 0])
            self.assertEqual(answers([number, 40] + [2] * 40 + [2]), [1, -1, 1, 3])

    def test_rows_that_look_like_calls(self):
        for number in (3, 6, 10):
            self.assertEqual(answers([number, 4, 0, 2, 0, 2, 2]), [1, -1, 1, 3])

    def test_forty_calls(self):
        self.assertEqual(answers([3, 3, 1, 1, 0] + [5] * 39), [1, 2] + [3, 1, 0, 1] * 39)
        long_calls = are(*[GREATEST] * 40) * 40
        self.assertEqual(answers(long_calls), [1, -1] * 40)

    def test_a_list_of_whole_numbers(self):
        calls = EVERY_CALL + begins(1) + begins(2) + old() + meet(0, 0) + rule(0, 1, 1, 1) + are(1, 1) + may()
        calls += to(0, 2) + to(2, 0) + one(1) + comes() + rests() + always(0, 2) + always(1, 1) + kept(2) + kept(1)
        given = answers(calls)
        self.assertIs(type(given), list)
        self.assertEqual({type(number) for number in given}, {int})

    def test_what_is_handed_in_stays(self):
        calls = Untouchable(EVERY_CALL)
        answers(calls)
        self.assertEqual(list(calls), EVERY_CALL)

    def test_asked_twice_answered_the_same(self):
        first = answers(EVERY_CALL)
        kept = list(first)
        self.assertEqual(answers(EVERY_CALL), kept)
        first.clear()
        self.assertEqual(answers(EVERY_CALL), kept)

    def test_nothing_is_kept_from_one_time_to_the_next(self):
        answers(begins(4) + rule(0, 1, 2, 3) + are(1, 1, 1, 1))
        answers(rule(0, 1, 0, 1) + are(2, 2, 2) + meet(0, 2))
        self.assertEqual(answers([5, 3, 3, 1, 1, 1, 5]), [1, 0, 1, 3, 7, 3, 0, 1, 0, 2, 1, 2])

    def test_nothing_is_printed(self):
        printed = io.StringIO()
        with contextlib.redirect_stdout(printed), contextlib.redirect_stderr(printed):
            answers(EVERY_CALL + begins(0))
        self.assertEqual(printed.getvalue(), "")


if __name__ == "__main__":
    unittest.main()
