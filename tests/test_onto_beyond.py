import unittest

from tests.lines import REFUSED, TOP, VALS, ask, beyond, both, cover, onto, some_numbers, tell, told_second


def common(one, other):
    return sum(2 ** k for k in range(5) if one // 2 ** k % 2 == 1 and other // 2 ** k % 2 == 1)


def together(one, other):
    return one + other - common(one, other)


class Onto(unittest.TestCase):
    def test_by_hand(self):
        self.assertEqual(ask(tell(4, -1, 7, 9), onto(1), VALS), [[2], [2, 4, -1, 4, -1], [2, 4, -1, 4, -1]])
        self.assertEqual(ask(tell(4, -1, 7, 9), onto(2))[1], [2, 4, 4, 7, 7])
        self.assertEqual(ask(tell(0, 1, 2, 3, 4, 5, 6, 7), onto(5))[1], [3, 0, 1, 0, 1, 4, 5, 4, 5])

    def test_at_the_beginning(self):
        self.assertEqual(ask(onto(0), onto(1)), [[1, 0, 0], [1, 0, 0]])

    def test_no_thing(self):
        for n in range(1, 6):
            numbers = [-6, *range(1, 2 ** n)]
            self.assertEqual(ask(tell(*numbers), onto(0), VALS)[1:], [[n] + [-6] * 2 ** n] * 2)

    def test_all_things(self):
        for n in range(1, 6):
            numbers = some_numbers(2 ** n, n)
            self.assertEqual(ask(tell(*numbers), onto(2 ** n - 1), VALS)[1:], [[n, *numbers]] * 2)

    def test_each_set(self):
        for n in range(1, 6):
            numbers = some_numbers(2 ** n, n + 10)
            for t in range(2 ** n):
                want = [n] + [numbers[common(chosen, t)] for chosen in range(2 ** n)]
                self.assertEqual(ask(tell(*numbers), onto(t), VALS)[1:], [want, want])

    def test_the_second_stays(self):
        pair = told_second(2, [1, -2, 3, -4], [5, 6, -7, 8])
        self.assertEqual(both(*pair, onto(2)), ([2, 1, 1, 3, 3], [2, 5, 6, -7, 8]))


class Beyond(unittest.TestCase):
    def test_by_hand(self):
        self.assertEqual(ask(tell(4, -1, 7, 9), beyond(1), VALS), [[2], [2, 0, 0, 10, 10], [2, 0, 0, 10, 10]])
        self.assertEqual(ask(tell(4, -1, 7, 9), beyond(2))[1], [2, 0, 2, 0, 2])
        self.assertEqual(ask(tell(0, 1, 4, 9, 16, 25, 36, 50), beyond(5))[1], [3, 0, 0, 25, 25, 0, 0, 25, 25])

    def test_at_the_beginning(self):
        self.assertEqual(ask(beyond(0), beyond(1)), [[1, 0, 0], [1, 0, 0]])

    def test_no_thing(self):
        for n in range(1, 6):
            numbers = [-6, *range(1, 2 ** n)]
            want = [n] + [number + 6 for number in numbers]
            self.assertEqual(ask(tell(*numbers), beyond(0), VALS)[1:], [want, want])

    def test_all_things(self):
        for n in range(1, 6):
            numbers = some_numbers(2 ** n - 1, n) + [8]
            self.assertEqual(ask(tell(*numbers), beyond(2 ** n - 1), VALS)[1:], [[n] + [0] * 2 ** n] * 2)

    def test_each_set(self):
        for n in range(1, 6):
            numbers = some_numbers(2 ** n, n + 20)
            for t in range(2 ** n):
                want = [n] + [numbers[together(chosen, t)] - numbers[t] for chosen in range(2 ** n)]
                self.assertEqual(ask(tell(*numbers), beyond(t), VALS)[1:], [want, want])

    def test_behind_cover(self):
        self.assertEqual(ask(cover(2, 5, 1, 7, 3), beyond(1))[1], [2, 0, 0, 0, 0])
        self.assertEqual(ask(cover(2, 5, 1, 7, 3), beyond(2))[1], [2, 0, 5, 0, 5])

    def test_the_second_stays(self):
        pair = told_second(2, [1, -2, 3, -4], [5, 6, -7, 8])
        self.assertEqual(both(*pair, beyond(2)), ([2, 0, -7, 0, -7], [2, 5, 6, -7, 8]))


class OntoAndBeyondRefused(unittest.TestCase):
    def test_a_set_of_other_things(self):
        for n in range(1, 6):
            numbers = some_numbers(2 ** n, n)
            for wrong in (2 ** n, 2 ** n + 1, 2 ** (n + 1) - 1, 32, 64, TOP - 1, TOP):
                for call in (onto(wrong), beyond(wrong)):
                    self.assertEqual(ask(tell(*numbers), call, VALS)[1:], [REFUSED, [n, *numbers]])

    def test_at_the_beginning(self):
        self.assertEqual(ask(onto(2), beyond(2), VALS), [REFUSED, REFUSED, [1, 0, 0]])

    def test_n_is_that_of_the_latest(self):
        self.assertEqual(ask(tell(*[1] * 8), tell(3, 4), onto(2), beyond(7), onto(1))[2:],
                         [REFUSED, REFUSED, [1, 3, 4]])

    def test_all_is_as_it_was(self):
        pair = told_second(2, [1, -2, 3, -4], [5, 6, -7, 8])
        for call in (onto(4), beyond(4), onto(TOP), beyond(TOP)):
            self.assertEqual(ask(*pair, call)[-1], REFUSED)
            self.assertEqual(both(*pair, call), ([2, 1, -2, 3, -4], [2, 5, 6, -7, 8]))


if __name__ == "__main__":
    unittest.main()
