import unittest

from tests.lines import (FALLS, LEAST, PARTED, REFUSED, REST, RISEN, SWAP, VALS, ask, beyond, both, cover, kind, less,
                         onto, set_raw, set_value, some_numbers, tell, tell_raw, told_second)

FIRST = [1, -2, 3, -4]
SECOND = [5, 6, -7, 8]


def pair():
    return told_second(2, FIRST, SECOND)


class Swap(unittest.TestCase):
    def test_at_the_beginning(self):
        self.assertEqual(ask(SWAP, SWAP, VALS), [[1, 0, 0]] * 3)

    def test_both_from_the_start_are_two(self):
        self.assertEqual(ask(set_value(1, 3), SWAP, set_value(0, 4), SWAP, VALS),
                         [[0], [1, 0, 0], [0], [1, 0, 3], [1, 0, 3]])

    def test_each_n(self):
        for n in range(1, 6):
            first, second = some_numbers(2 ** n, n), some_numbers(2 ** n, n + 30)
            self.assertEqual(ask(*told_second(n, first, second), VALS, SWAP, VALS)[-3:],
                             [[n, *first], [n, *second], [n, *second]])

    def test_twice(self):
        self.assertEqual(ask(*pair(), SWAP, SWAP, VALS)[-3:], [[2, *SECOND], [2, *FIRST], [2, *FIRST]])

    def test_what_is_asked_is_the_first(self):
        self.assertEqual(ask(*pair(), SWAP, kind(1), FALLS, LEAST, SWAP, kind(1), FALLS, LEAST)[-7:],
                         [[1], [0, 0, 2], [-7, 1, 2, 2], [2, *FIRST], [0, 0, 1, 2], [0, 0, 1], [-4, 1, 3, 3]])


class TheSecond(unittest.TestCase):
    def test_it_is_0_behind_a_tell_that_changes_n(self):
        for n in (1, 3, 4, 5):
            numbers = some_numbers(2 ** n, n)
            self.assertEqual(both(*pair(), tell(*numbers)), ([n, *numbers], [n] + [0] * 2 ** n))

    def test_it_is_0_behind_a_cover_that_changes_n(self):
        for n in (1, 3, 4, 5):
            want = [n] + [3 * (chosen % 2) for chosen in range(2 ** n)]
            self.assertEqual(both(*pair(), cover(n, 3, 1)), (want, [n] + [0] * 2 ** n))

    def test_it_stays_behind_a_tell_that_does_not(self):
        self.assertEqual(both(*pair(), tell(7, 7, 7, 7)), ([2, 7, 7, 7, 7], [2, *SECOND]))

    def test_it_stays_behind_a_cover_that_does_not(self):
        self.assertEqual(both(*pair(), cover(2, 4, 2)), ([2, 0, 0, 4, 4], [2, *SECOND]))

    def test_n_changed_there_and_back(self):
        self.assertEqual(both(*pair(), tell(1, 2), tell(*FIRST)), ([2, *FIRST], [2, 0, 0, 0, 0]))
        self.assertEqual(both(*pair(), cover(3), cover(2)), ([2, 0, 0, 0, 0], [2, 0, 0, 0, 0]))

    def test_the_former_first_is_the_second_then(self):
        self.assertEqual(both(*pair(), SWAP, tell(1, 1, 1, 1)), ([2, 1, 1, 1, 1], [2, *FIRST]))
        self.assertEqual(both(*pair(), SWAP, tell(1, 1)), ([1, 1, 1], [1, 0, 0]))

    def test_set_value_changes_the_one_alone(self):
        for s in range(4):
            changed = list(SECOND)
            changed[s] = -9
            self.assertEqual(both(*pair(), SWAP, set_value(s, -9)), ([2, *changed], [2, *FIRST]))
            changed = list(FIRST)
            changed[s] = -9
            self.assertEqual(both(*pair(), SWAP, SWAP, set_value(s, -9)), ([2, *changed], [2, *SECOND]))

    def test_set_value_behind_a_new_n_changes_the_one_alone(self):
        self.assertEqual(both(*pair(), tell(1, 2), SWAP, set_value(0, 5)), ([1, 5, 0], [1, 1, 2]))

    def test_set_value_behind_each_call_changes_the_one_alone(self):
        for call in (less(1, 1), onto(3), onto(0), beyond(0), REST, RISEN, PARTED, VALS):
            first = ask(*pair(), call, VALS)[-1]
            self.assertEqual(both(*pair(), call, SWAP, set_value(2, 1)), ([2, 5, 6, 1, 8], first))
            first[1 + 2] = 1
            self.assertEqual(both(*pair(), call, set_value(2, 1)), (first, [2, *SECOND]))

    def test_each_call_changes_the_first_alone(self):
        for call, want in ((less(1, 2), [1, -3, 1, -7]), (onto(1), [1, -2, 1, -2]), (beyond(1), [0, 0, -2, -2]),
                           (REST, [0, -7, -2, -5]), (RISEN, [-4, -4, -4, -4]), (PARTED, [6, 3, -6, -9])):
            self.assertEqual(both(*pair(), call), ([2, *want], [2, *SECOND]))
            self.assertEqual(ask(*pair(), SWAP, SWAP, call, SWAP, SWAP)[-3:], [[2, *want], [2, *SECOND], [2, *want]])

    def test_refused_both_stay(self):
        refused = (tell_raw(2), tell_raw(2, 20001), cover(6), cover(3, 1), cover(3, 1, 8), set_raw(4, 0),
                   set_raw(0, 20001), kind(3), less(1), less(1, 1, 1), less(1, 10001), onto(4), beyond(4))
        for call in refused:
            self.assertEqual(ask(*pair(), call, VALS, SWAP)[-3:], [REFUSED, [2, *FIRST], [2, *SECOND]])
            self.assertEqual(ask(*pair(), SWAP, call, VALS, SWAP)[-3:], [REFUSED, [2, *SECOND], [2, *FIRST]])


if __name__ == "__main__":
    unittest.main()
