import contextlib
import io
import itertools
import unittest

from setfunctions.tools import answers
from tests.lines import (FALLS, LEAST, PARTED, REST, RISEN, SWAP, TOP, VALS, ask, beyond, cover, kind, less, less_raw,
                         onto, set_raw, set_value, tell, tell_raw)

MIXED = [*VALS, *tell(0, 2, 2, 3), *kind(1), *kind(3), *set_value(3, -4), *FALLS, *LEAST, *cover(1, 5, 1), *tell_raw(1),
         *VALS, *SWAP, *set_value(1, -2), *PARTED, *less(4), *less(4, 4), *SWAP, *REST, *tell(0, 2, 2, 3), *onto(2),
         *beyond(1), *RISEN, *onto(4)]
MIXED_ANSWERS = [3, 1, 0, 0, 1, 2, 4, 0, 0, 1, 2, 1, -1, 1, 0, 3, 0, 1, 2, 4, -4, 1, 3, 3, 3, 1, 0, 5, 1, -1,
                 3, 1, 0, 5, 3, 1, 0, 0, 1, 0, 3, 1, 0, -2, 3, 1, 0, -6, 1, -1, 3, 1, 0, 5, 3, 1, 0, 5, 1, 2,
                 5, 2, 0, 0, 2, 2, 5, 2, 0, 0, 2, 2, 5, 2, 0, 0, 2, 2, 1, -1]


class Answers(unittest.TestCase):
    def test_the_numbers_as_they_are_given_back(self):
        self.assertEqual(answers(list(MIXED)), MIXED_ANSWERS)

    def test_the_numbers_as_they_are_handed_in(self):
        self.assertEqual(answers([0, 2, 5, 6, 1, 1, 2, 7, 1, 2, 1, 3, 3, 4, 0, 5, 6]),
                         [1, 1, 3, 1, 0, 7, 1, 0, 3, 1, 0, -2, 1, 1, 3, 0, 0, 1, 4, -2, 1, 1, 1])
        self.assertEqual(answers([0, 4, 3, 4, 6, 2, 7, 2, 2, 1, 12, 2, 3, 9, 13, 8, 1, 9, 0, 10, 11]),
                         [1, 2, 5, 2, -2, 1, 4, 1, 5, 2, 0, 0, 0, 0, 1, 0, 5, 2, -2, -2, -2, -7, 5, 2, -2, -2, -2, -2,
                          5, 2, 0, 0, 0, 0, 5, 2, 0, 0, 0, 0, 5, 2, 0, 0, 0, 0])

    def test_any_call_first(self):
        for call, want in ((tell(1, 2), [1]), (cover(1), [1, 0, 0]), (set_value(0, 1), [0]), (VALS, [1, 0, 0]),
                           (kind(0), [1]), (FALLS, [1]), (LEAST, [0, 2, 0, 1]), (less(3), [1, 0, -3]),
                           (onto(1), [1, 0, 0]),
                           (beyond(1), [1, 0, 0]), (REST, [1, 0, 0]), (RISEN, [1, 0, 0]), (SWAP, [1, 0, 0]),
                           (PARTED, [1, 0, 0]), (less(), [-1]), (onto(2), [-1]), (beyond(2), [-1])):
            self.assertEqual(answers(list(call)), [len(want), *want])

    def test_in_any_order(self):
        asked = (VALS, kind(0), kind(1), kind(3), FALLS, LEAST)
        want = ([2, 0, 2, 2, 1], [1], [0, 0, 1, 2], [-1], [0, 1, 2], [0, 1, 0, 0])
        for order in itertools.permutations(range(6)):
            self.assertEqual(ask(tell(0, 2, 2, 1), *[asked[k] for k in order])[1:], [want[k] for k in order])

    def test_thirty_calls(self):
        self.assertEqual(ask(*[tell(*range(32))] * 29, VALS), [[5]] * 29 + [[5, *range(32)]])

    def test_thirty_that_change(self):
        calls = [tell(*range(32)), SWAP, *[less(1, 2, 4, 8, 16), SWAP] * 13, tell_raw(1), VALS]
        given = ask(*calls)
        self.assertEqual(len(calls), 30)
        self.assertEqual(len(given), 30)
        self.assertEqual(given[-2:], [[-1], [5, *[-5 * chosen for chosen in range(32)]]])
        self.assertEqual(ask(*calls[:-2], SWAP)[-1], [5, *[-7 * chosen for chosen in range(32)]])

    def test_thirty_that_grow(self):
        first, second, want = 10000, 10000, []
        for k in range(13):
            first, second = second, first + second
            want += [[1, second, second], [1, first, first]]
        self.assertEqual(ask(tell(10000, 10000), SWAP, tell(10000, 10000), *[PARTED, SWAP] * 13, VALS)[3:],
                         want + [[1, first, first]])

    def test_rows_of_the_longest_and_none(self):
        self.assertEqual(ask(tell_raw(*[TOP] * 40), cover(TOP, *[TOP] * 50), tell_raw(), set_raw(TOP, TOP), kind(TOP),
                             less_raw(*[TOP] * 10), less_raw(), onto(TOP), beyond(TOP), VALS), [[-1]] * 9 + [[1, 0, 0]])

    def test_numbers_in_a_row_are_no_calls(self):
        self.assertEqual(ask(tell_raw(3, 3, 3), cover(6, 3, 3), less_raw(3, 3), onto(3), beyond(3), VALS),
                         [[-1]] * 5 + [[1, 0, 0]])

    def test_what_is_handed_in_is_as_it_was(self):
        calls = list(MIXED)
        answers(calls)
        self.assertEqual(calls, MIXED)

    def test_what_is_handed_in_is_never_changed(self):
        class Kept(list):
            def refuse(self, *given):
                raise AssertionError("the list that was handed in is changed")

            append = extend = insert = pop = remove = clear = sort = reverse = refuse
            __setitem__ = __delitem__ = __iadd__ = __imul__ = refuse

        self.assertEqual(answers(Kept(MIXED)), MIXED_ANSWERS)

    def test_asked_twice_it_is_the_same(self):
        calls = list(MIXED)
        first = answers(calls)
        first.append(99)
        self.assertEqual(answers(calls), MIXED_ANSWERS)

    def test_nothing_is_kept(self):
        answers([*tell(*range(32)), *set_value(0, 9)])
        self.assertEqual(answers([3]), [3, 1, 0, 0])
        answers([*set_value(0, 9), *set_value(1, 9)])
        self.assertEqual(answers([3]), [3, 1, 0, 0])

    def test_an_answer_given_is_not_changed_later(self):
        self.assertEqual(ask(cover(1, 2, 1), set_value(0, 7), VALS), [[1, 0, 2], [0], [1, 7, 2]])

    def test_plain_whole_numbers_in_a_plain_list(self):
        given = answers(list(MIXED))
        self.assertIs(type(given), list)
        self.assertEqual({type(number) for number in given}, {int})

    def test_it_prints_nothing(self):
        out, err = io.StringIO(), io.StringIO()
        with contextlib.redirect_stdout(out), contextlib.redirect_stderr(err):
            answers(list(MIXED))
        self.assertEqual((out.getvalue(), err.getvalue()), ("", ""))


if __name__ == "__main__":
    unittest.main()
