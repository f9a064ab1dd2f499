import itertools
import unittest

from tests.lines import PARTED, SWAP, VALS, ask, both, set_value, some_numbers, tell, told_second


def parted(n, first, second):
    """By handing each thing of a set to the one part or to the other."""
    found = []
    for chosen in range(2 ** n):
        own = [2 ** k for k in range(n) if chosen // 2 ** k % 2 == 1]
        sums = []
        for sides in itertools.product((0, 1), repeat=len(own)):
            one = sum(bit for bit, side in zip(own, sides) if side == 0)
            sums.append(first[one] + second[sum(own) - one])
        found.append(min(sums))
    return found


class Parted(unittest.TestCase):
    def test_at_the_beginning(self):
        self.assertEqual(ask(PARTED, VALS), [[1, 0, 0], [1, 0, 0]])

    def test_least_at_one_whole_part(self):
        self.assertEqual(ask(*told_second(1, [0, 3], [0, 5]), PARTED)[-1], [1, 0, 3])
        self.assertEqual(ask(*told_second(1, [0, 5], [0, 3]), PARTED)[-1], [1, 0, 3])
        self.assertEqual(ask(*told_second(2, [0, 9, 9, 1], [0, 9, 9, 9]), PARTED)[-1], [2, 0, 9, 9, 1])
        self.assertEqual(ask(*told_second(2, [0, 9, 9, 9], [0, 9, 9, -1]), PARTED)[-1], [2, 0, 9, 9, -1])

    def test_least_at_a_true_parting(self):
        self.assertEqual(ask(*told_second(2, [0, 1, 7, 9], [0, 8, 2, 9]), PARTED)[-1], [2, 0, 1, 2, 3])
        self.assertEqual(ask(*told_second(2, [0, 7, 1, 9], [0, 2, 8, 9]), PARTED)[-1], [2, 0, 2, 1, 3])
        self.assertEqual(ask(*told_second(3, [0, 9, 9, 9, 9, -4, 9, 9], [0, 9, -3, 9, 9, 9, 9, 9]), PARTED)[-1],
                         [3, 0, 9, -3, 6, 9, -4, 6, -7])

    def test_not_0_for_no_thing(self):
        self.assertEqual(ask(*told_second(1, [2, 3], [-5, 7]), PARTED)[-1], [1, -3, -2])
        self.assertEqual(ask(*told_second(1, [2, 9], [-5, -1]), PARTED)[-1], [1, -3, 1])

    def test_with_a_second_of_0(self):
        self.assertEqual(ask(tell(4, 1, -2, 6), PARTED, VALS)[1:], [[2, 4, 1, -2, -2]] * 2)

    def test_each_n(self):
        for n in range(1, 6):
            for seed in range(12):
                first, second = some_numbers(2 ** n, seed), some_numbers(2 ** n, seed + 70)
                want = [n, *parted(n, first, second)]
                self.assertEqual(ask(*told_second(n, first, second), PARTED, VALS)[-2:], [want, want])

    def test_every_two_functions_of_one_thing(self):
        for a, b, c, d in itertools.product((-2, -1, 0, 1, 2), repeat=4):
            self.assertEqual(ask(*told_second(1, [a, b], [c, d]), PARTED)[-1], [1, a + c, min(a + d, b + c)])

    def test_the_second_stays(self):
        pair = told_second(2, [1, -2, 3, -4], [5, 6, -7, 8])
        self.assertEqual(both(*pair, PARTED), ([2, 6, 3, -6, -9], [2, 5, 6, -7, 8]))

    def test_twice(self):
        first, second = some_numbers(8, 1), some_numbers(8, 2)
        once = parted(3, first, second)
        self.assertEqual(ask(*told_second(3, first, second), PARTED, PARTED)[-2:],
                         [[3, *once], [3, *parted(3, once, second)]])

    def test_from_the_other_side_it_is_the_same(self):
        first, second = some_numbers(16, 3), some_numbers(16, 4)
        self.assertEqual(ask(*told_second(4, first, second), SWAP, PARTED)[-1], [4, *parted(4, first, second)])

    def test_set_value_behind_it(self):
        pair = told_second(1, [0, 3], [0, 5])
        self.assertEqual(both(*pair, PARTED, set_value(1, 9)), ([1, 0, 9], [1, 0, 5]))


if __name__ == "__main__":
    unittest.main()
