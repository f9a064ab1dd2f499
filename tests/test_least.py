import itertools
import unittest

from tests.lines import LEAST, VALS, ask, cover, set_value, tell


def least(*numbers):
    return ask(tell(*numbers), LEAST)[1]


class Least(unittest.TestCase):
    def test_at_the_beginning(self):
        self.assertEqual(ask(LEAST), [[0, 2, 0, 1]])

    def test_one_least_set(self):
        for n in range(1, 6):
            for s in range(2 ** n):
                numbers = [5] * 2 ** n
                numbers[s] = 4
                self.assertEqual(least(*numbers), [4, 1, s, s])

    def test_several(self):
        self.assertEqual(least(1, 1, 0, 0, 1, 1, 0, 1), [0, 3, 2, 7])
        self.assertEqual(least(2, 2, 2, 1, 2, 1, 2, 2), [1, 2, 1, 7])
        self.assertEqual(least(2, 1, 1, 2, 1, 2, 2, 2), [1, 3, 0, 7])

    def test_not_all_things(self):
        self.assertEqual(least(3, 2, 3, 2, 3, 3, 3, 3), [2, 2, 1, 3])

    def test_all_sets(self):
        for n in range(1, 6):
            self.assertEqual(least(*[6] * 2 ** n), [6, 2 ** n, 0, 2 ** n - 1])

    def test_below_0(self):
        self.assertEqual(least(0, -1, 3, 2), [-1, 1, 1, 1])
        self.assertEqual(least(-1, -2, -3, -3), [-3, 2, 2, 3])
        self.assertEqual(least(0, -10000), [-10000, 1, 1, 1])

    def test_a_least_of_minus_1_is_no_refusal(self):
        self.assertEqual(ask(tell(-1, -1), LEAST, VALS), [[1], [-1, 2, 0, 1], [1, -1, -1]])

    def test_every_function_of_three_things(self):
        for numbers in itertools.product((-1, 0, 1), repeat=8):
            sets = [s for s in range(8) if all(numbers[s] <= other for other in numbers)]
            each = sum(b for b in (1, 2, 4) if all(s // b % 2 for s in sets))
            some = sum(b for b in (1, 2, 4) if any(s // b % 2 for s in sets))
            self.assertEqual(least(*numbers), [numbers[sets[0]], len(sets), each, some], numbers)

    def test_behind_cover_and_set(self):
        self.assertEqual(ask(cover(2, 3, 1), LEAST, set_value(3, -5), LEAST)[1:], [[0, 2, 0, 2], [0], [-5, 1, 3, 3]])

    def test_asking_changes_nothing(self):
        self.assertEqual(ask(tell(3, -2, 1, 0), LEAST, VALS)[2], [2, 3, -2, 1, 0])


if __name__ == "__main__":
    unittest.main()
