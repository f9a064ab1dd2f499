import unittest

from setfunctions.tools import Pair, set_value as set_pair
from tests.lines import REFUSED, TOP, VALS, ask, cover, set_raw, set_value, tell


class SetValue(unittest.TestCase):
    def test_each_set(self):
        for n in range(1, 6):
            for s in range(2 ** n):
                want = [n] + [0] * 2 ** n
                want[1 + s] = -7
                self.assertEqual(ask(tell(*[0] * 2 ** n), set_value(s, -7), VALS), [[n], [0], want])

    def test_at_the_beginning(self):
        self.assertEqual(ask(set_value(1, 3), set_value(0, -3), VALS), [[0], [0], [1, -3, 3]])

    def test_behind_cover(self):
        self.assertEqual(ask(cover(2, 4, 3), set_value(3, -1), VALS)[1:], [[0], [2, 0, 4, 4, -1]])

    def test_how_v_is_handed_over(self):
        for raw, number in ((0, 0), (1, -1), (2, 1), (5, -3), (6, 3), (19999, -10000), (20000, 10000)):
            self.assertEqual(ask(tell(9, 9), set_raw(0, raw), VALS)[1:], [[0], [1, number, 9]])

    def test_a_set_of_other_things_is_refused(self):
        for n in range(1, 6):
            numbers = list(range(2 ** n))
            for wrong in (2 ** n, 2 ** n + 1, 32, TOP):
                self.assertEqual(ask(tell(*numbers), set_raw(wrong, 0), VALS), [[n], REFUSED, [n, *numbers]])

    def test_v_too_high_is_refused(self):
        for wrong in (20001, 20002, TOP):
            self.assertEqual(ask(tell(5, 6), set_raw(1, wrong), VALS), [[1], REFUSED, [1, 5, 6]])

    def test_both_wrong(self):
        self.assertEqual(ask(set_raw(2, 20001), VALS), [REFUSED, [1, 0, 0]])

    def test_the_second_stays(self):
        pair = Pair()
        set_pair(pair, 0, 8)
        set_pair(pair, 1, 20001)
        self.assertEqual((pair.things, pair.first, pair.second), (1, [4, 0], [0, 0]))


if __name__ == "__main__":
    unittest.main()
