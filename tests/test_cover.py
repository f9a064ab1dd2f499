import unittest

from setfunctions.tools import Pair, cover as cover_pair
from tests.lines import REFUSED, TOP, VALS, ask, cover, kind, tell


def met(points, chosen):
    """By things, not by bits: the weights of the points with a thing in common with the set."""
    total = 0
    for weight, own in points:
        if any(own // 2 ** t % 2 == 1 and chosen // 2 ** t % 2 == 1 for t in range(5)):
            total += weight
    return total


class Cover(unittest.TestCase):
    def test_by_hand(self):
        self.assertEqual(ask(cover(2, 5, 1, 7, 2, 11, 3), VALS), [[2, 0, 16, 18, 23], [2, 0, 16, 18, 23]])

    def test_one_thing(self):
        self.assertEqual(ask(cover(1, 3, 1, 4, 0)), [[1, 0, 3]])

    def test_no_point(self):
        for n in range(1, 6):
            self.assertEqual(ask(tell(7, 7), cover(n), VALS), [[1], [n] + [0] * 2 ** n, [n] + [0] * 2 ** n])

    def test_weight_is_not_handed_over_as_values_are(self):
        self.assertEqual(ask(cover(1, 1, 1)), [[1, 0, 1]])

    def test_a_point_of_no_thing_and_a_point_without_weight(self):
        self.assertEqual(ask(cover(2, 1000, 0, 0, 3, 2, 2)), [[2, 0, 0, 2, 2]])

    def test_each_set_of_a_point(self):
        for n in range(1, 6):
            for own in range(2 ** n):
                want = [n] + [met([(9, own)], chosen) for chosen in range(2 ** n)]
                self.assertEqual(ask(cover(n, 9, own)), [want])

    def test_twenty_points(self):
        for n in range(1, 6):
            points = [(50 * k + 1, (7 * k + 3) % 2 ** n) for k in range(20)]
            row = [number for point in points for number in point]
            want = [n] + [met(points, chosen) for chosen in range(2 ** n)]
            self.assertEqual(ask(cover(n, *row), VALS, kind(0)), [want, want, [1]])

    def test_twenty_of_the_highest_weight(self):
        self.assertEqual(ask(cover(1, *[1000, 1] * 20)), [[1, 0, 20000]])

    def test_more_than_twenty_points_are_refused(self):
        for count in (21, 22, 25):
            self.assertEqual(ask(cover(5, *[1, 1] * count), VALS), [REFUSED, [1, 0, 0]])

    def test_n_that_is_refused(self):
        for n in (0, 6, 7, 31, 32, 64, TOP):
            for row in ((), (1, 0), (1, 1)):
                self.assertEqual(ask(cover(n, *row), VALS), [REFUSED, [1, 0, 0]])

    def test_weight_1000_and_1001(self):
        self.assertEqual(ask(cover(1, 1000, 1)), [[1, 0, 1000]])
        for wrong in (1001, 2000, TOP):
            self.assertEqual(ask(cover(1, wrong, 1)), [REFUSED])
            self.assertEqual(ask(cover(1, 1, 1, wrong, 0, 1, 1)), [REFUSED])
            self.assertEqual(ask(cover(1, *[1, 1] * 19, wrong, 1)), [REFUSED])

    def test_a_set_of_other_things_is_refused(self):
        for n in range(1, 6):
            self.assertEqual(ask(cover(n, 3, 2 ** n - 1)), [[n, 0] + [3] * (2 ** n - 1)])
            for wrong in (2 ** n, 2 ** n + 1, TOP):
                self.assertEqual(ask(cover(n, 3, wrong)), [REFUSED])
                self.assertEqual(ask(cover(n, 3, 1, 0, wrong, 3, 1)), [REFUSED])
                self.assertEqual(ask(cover(n, *[3, 1] * 19, 3, wrong)), [REFUSED])

    def test_the_sets_are_of_the_new_n(self):
        self.assertEqual(ask(tell(*[0] * 32), cover(2, 1, 4)), [[5], REFUSED])
        self.assertEqual(ask(cover(5, 1, 31), VALS)[1][0], 5)

    def test_a_number_left_over_is_refused(self):
        for count in range(1, 50, 2):
            self.assertEqual(ask(cover(3, *[1] * count), VALS), [REFUSED, [1, 0, 0]])

    def test_all_is_as_it_was_after_a_refusal(self):
        refused = (cover(0), cover(6), cover(3, 1), cover(3, 1001, 1), cover(3, 1, 8), cover(3, *[1, 1] * 21))
        for call in refused:
            self.assertEqual(ask(tell(1, -2, 3, -4), call, VALS), [[2], REFUSED, [2, 1, -2, 3, -4]])


class CoverAndTheSecond(unittest.TestCase):
    def pair(self):
        pair = Pair()
        cover_pair(pair, 2, [])
        pair.second = [4, 5, 6, 7]
        return pair

    def test_of_as_many_things_it_stays(self):
        pair = self.pair()
        cover_pair(pair, 2, [1, 3])
        self.assertEqual((pair.first, pair.second), ([0, 1, 1, 1], [4, 5, 6, 7]))

    def test_of_another_number_it_is_0_everywhere(self):
        for n in (1, 3, 4, 5):
            pair = self.pair()
            cover_pair(pair, n, [1, 1])
            self.assertEqual((pair.things, pair.second), (n, [0] * 2 ** n))

    def test_refused_it_stays(self):
        for n, row in ((3, [1]), (6, []), (3, [1001, 1]), (3, [1, 8])):
            pair = self.pair()
            self.assertEqual(cover_pair(pair, n, row), REFUSED)
            self.assertEqual((pair.things, pair.first, pair.second), (2, [0] * 4, [4, 5, 6, 7]))


if __name__ == "__main__":
    unittest.main()
