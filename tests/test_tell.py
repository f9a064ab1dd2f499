import unittest

from setfunctions.tools import Pair, tell as tell_pair
from tests.lines import REFUSED, TOP, VALS, ask, handed, tell, tell_raw


class Tell(unittest.TestCase):
    def test_each_right_count_answers_n(self):
        for n in range(1, 6):
            numbers = list(range(-3, 2 ** n - 3))
            self.assertEqual(ask(tell(*numbers), VALS), [[n], [n, *numbers]])

    def test_how_numbers_are_handed_over(self):
        self.assertEqual(ask(tell_raw(0, 1, 2, 3, 4, 5, 6, 7), VALS)[1], [3, 0, -1, 1, -2, 2, -3, 3, -4])

    def test_each_number_that_may_be_handed_over(self):
        for raw in range(0, 20001, 2):
            high, low = raw // 2, -(raw // 2)
            self.assertEqual(ask(tell_raw(handed(high), handed(low)), VALS)[1], [1, high, low])

    def test_other_counts_are_refused(self):
        for count in range(41):
            if count not in (2, 4, 8, 16, 32):
                self.assertEqual(ask(tell_raw(*[2] * count), VALS), [REFUSED, [1, 0, 0]], count)

    def test_highest_value(self):
        self.assertEqual(ask(tell_raw(20000, 19999), VALS), [[1], [1, 10000, -10000]])

    def test_a_value_too_high_is_refused_wherever_it_stands(self):
        for n in range(1, 6):
            for place in range(2 ** n):
                for wrong in (20001, 20002, TOP - 1, TOP):
                    row = [0] * 2 ** n
                    row[place] = wrong
                    self.assertEqual(ask(tell_raw(*row)), [REFUSED])

    def test_all_is_as_it_was_after_a_refusal(self):
        refused = (tell_raw(), tell_raw(8), tell_raw(8, 8, 8), tell_raw(8, 20001), tell_raw(8, 8, 8, 20001),
                   tell_raw(*[8] * 40))
        for call in refused:
            self.assertEqual(ask(tell(1, -2, 3, -4), call, VALS), [[2], REFUSED, [2, 1, -2, 3, -4]])

    def test_a_refusal_at_the_beginning(self):
        self.assertEqual(ask(tell_raw(1, 20001), VALS), [REFUSED, [1, 0, 0]])

    def test_the_latest_stands(self):
        self.assertEqual(ask(tell(*range(32)), tell(5, 6), VALS), [[5], [1], [1, 5, 6]])


class TellAndTheSecond(unittest.TestCase):
    def pair(self):
        pair = Pair()
        tell_pair(pair, [0, 0, 0, 0])
        pair.second = [4, 5, 6, 7]
        return pair

    def test_two_functions_from_the_start(self):
        pair = Pair()
        self.assertEqual((pair.things, pair.first, pair.second), (1, [0, 0], [0, 0]))

    def test_of_as_many_things_it_stays(self):
        pair = self.pair()
        tell_pair(pair, [2, 4, 6, 8])
        self.assertEqual((pair.first, pair.second), ([1, 2, 3, 4], [4, 5, 6, 7]))

    def test_of_another_number_it_is_0_everywhere(self):
        for n in (1, 3, 4, 5):
            pair = self.pair()
            tell_pair(pair, [2] * 2 ** n)
            self.assertEqual((pair.things, pair.second), (n, [0] * 2 ** n))

    def test_refused_it_stays(self):
        for row in ([2, 20001], [2] * 3, []):
            pair = self.pair()
            self.assertEqual(tell_pair(pair, row), REFUSED)
            self.assertEqual((pair.things, pair.first, pair.second), (2, [0] * 4, [4, 5, 6, 7]))


if __name__ == "__main__":
    unittest.main()
