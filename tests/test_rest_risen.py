import itertools
import unittest

from tests.lines import REST, RISEN, VALS, ask, both, cover, kind, some_numbers, tell, told_second


def has(chosen, k):
    return chosen // 2 ** k % 2 == 1


class Rest(unittest.TestCase):
    def test_by_hand(self):
        self.assertEqual(ask(tell(0, 2, 2, 3), REST, VALS), [[2], [2, 0, 1, 1, 3], [2, 0, 1, 1, 3]])
        self.assertEqual(ask(tell(0, 1, 4, 9, 16, 25, 36, 50), REST)[1], [3, 0, 14, 25, 34, 41, 46, 49, 50])

    def test_at_the_beginning(self):
        self.assertEqual(ask(REST, VALS), [[1, 0, 0], [1, 0, 0]])

    def test_not_0_for_no_thing(self):
        self.assertEqual(ask(tell(5, 2), REST)[1], [1, 0, -3])
        self.assertEqual(ask(tell(-5, 2, 7, -3), REST, REST)[1:], [[2, 0, -10, -5, 2], [2, 0, 7, 12, 2]])

    def test_each_n(self):
        for n in range(1, 6):
            for seed in range(20):
                numbers = some_numbers(2 ** n, seed)
                want = [n]
                for chosen in range(2 ** n):
                    others = sum(2 ** k for k in range(n) if not has(chosen, k))
                    want.append(numbers[-1] - numbers[others])
                self.assertEqual(ask(tell(*numbers), REST, VALS)[1:], [want, want])

    def test_twice_it_is_as_it_was_but_for_no_thing(self):
        for n in range(1, 6):
            numbers = some_numbers(2 ** n, n)
            want = [n] + [number - numbers[0] for number in numbers]
            self.assertEqual(ask(tell(*numbers), REST, REST)[2], want)

    def test_the_kind_is_the_other(self):
        self.assertEqual(ask(cover(2, 1, 3), kind(0), kind(1), REST, kind(0), kind(1))[1:],
                         [[1], [0, 0, 1, 2], [2, 0, 0, 0, 1], [0, 0, 1, 2], [1]])

    def test_the_second_stays(self):
        pair = told_second(2, [1, -2, 3, -4], [5, 6, -7, 8])
        self.assertEqual(both(*pair, REST), ([2, 0, -7, -2, -5], [2, 5, 6, -7, 8]))


class Risen(unittest.TestCase):
    def test_least_at_the_set_itself(self):
        self.assertEqual(ask(tell(0, 1, 2, 3), RISEN, VALS), [[2], [2, 0, 1, 2, 3], [2, 0, 1, 2, 3]])

    def test_least_at_all_things(self):
        for n in range(1, 6):
            numbers = [*range(1, 2 ** n), -4]
            self.assertEqual(ask(tell(*numbers), RISEN)[1], [n] + [-4] * 2 ** n)

    def test_least_between(self):
        self.assertEqual(ask(tell(9, 8, 7, 1, 6, 5, 4, 3), RISEN)[1], [3, 1, 1, 1, 1, 3, 3, 3, 3])
        self.assertEqual(ask(tell(5, 5, 5, 5, 5, -2, 5, 5), RISEN)[1], [3, -2, -2, 5, 5, -2, -2, 5, 5])

    def test_a_set_with_only_some_of_it_does_not_count(self):
        self.assertEqual(ask(tell(0, 7, -3, 7), RISEN)[1], [2, -3, 7, -3, 7])

    def test_at_the_beginning(self):
        self.assertEqual(ask(RISEN, VALS), [[1, 0, 0], [1, 0, 0]])

    def test_every_function_of_two_things(self):
        for none, one, two, both_things in itertools.product((-2, -1, 0, 1), repeat=4):
            want = [2, min(none, one, two, both_things), min(one, both_things), min(two, both_things), both_things]
            self.assertEqual(ask(tell(none, one, two, both_things), RISEN, VALS)[1:], [want, want])

    def test_each_n(self):
        for n in range(1, 6):
            for seed in range(20):
                numbers = some_numbers(2 ** n, seed + 50)
                want = [n]
                for chosen in range(2 ** n):
                    want.append(min(numbers[wider] for wider in range(2 ** n)
                                    if all(has(wider, k) for k in range(n) if has(chosen, k))))
                self.assertEqual(ask(tell(*numbers), RISEN, VALS, RISEN)[1:], [want, want, want])

    def test_the_second_stays(self):
        pair = told_second(2, [1, -2, 3, -1], [5, 6, -7, 8])
        self.assertEqual(both(*pair, RISEN), ([2, -2, -2, -1, -1], [2, 5, 6, -7, 8]))


if __name__ == "__main__":
    unittest.main()
