import unittest

from tests.lines import REFUSED, TOP, VALS, ask, both, cover, less, less_raw, some_numbers, tell, told_second


def lowered(numbers, prices):
    """Thing by thing: each set is less by the prices of its things."""
    found = []
    for chosen, number in enumerate(numbers):
        for place, price in enumerate(prices):
            if chosen // 2 ** place % 2 == 1:
                number -= price
        found.append(number)
    return found


class Less(unittest.TestCase):
    def test_by_hand(self):
        self.assertEqual(ask(tell(0, 2, 2, 3), less(1, 5), VALS), [[2], [2, 0, 1, -3, -3], [2, 0, 1, -3, -3]])
        self.assertEqual(ask(tell(7, 0, -1, 2, 0, 0, 0, 10), less(1, 2, 4))[1], [3, 7, -1, -3, -1, -4, -5, -6, 3])

    def test_at_the_beginning(self):
        self.assertEqual(ask(less(3), VALS), [[1, 0, -3], [1, 0, -3]])
        self.assertEqual(ask(less(-3), VALS), [[1, 0, 3], [1, 0, 3]])

    def test_each_n(self):
        for n in range(1, 6):
            for seed in range(20):
                numbers, prices = some_numbers(2 ** n, seed), some_numbers(n, seed + 100)
                want = [n, *lowered(numbers, prices)]
                self.assertEqual(ask(tell(*numbers), less(*prices), VALS)[1:], [want, want])

    def test_each_thing_by_itself(self):
        for n in range(1, 6):
            for thing in range(n):
                prices = [0] * n
                prices[thing] = 1
                want = [-(chosen // 2 ** thing % 2) for chosen in range(2 ** n)]
                self.assertEqual(ask(tell(*[0] * 2 ** n), less(*prices))[1], [n, *want])

    def test_how_prices_are_handed_over(self):
        for raw, price in ((0, 0), (1, -1), (2, 1), (3, -2), (5, -3), (6, 3), (19999, -10000), (20000, 10000)):
            self.assertEqual(ask(tell(4, 4), less_raw(raw))[1], [1, 4, 4 - price])

    def test_the_set_of_no_thing_stays(self):
        self.assertEqual(ask(tell(-8, 0, 0, 0), less(3, 4))[1], [2, -8, -3, -4, -7])

    def test_it_may_go_beyond_what_can_be_told(self):
        want = [1, -10000, -40000]
        self.assertEqual(ask(tell(-10000, -10000), less_raw(20000), less_raw(20000), less_raw(20000))[3], want)

    def test_behind_cover(self):
        self.assertEqual(ask(cover(2, 5, 1, 7, 3), less(12, 6))[1], [2, 0, 0, 1, -6])

    def test_other_counts_are_refused(self):
        for n in range(1, 6):
            numbers = list(range(2 ** n))
            for count in range(11):
                given = ask(tell(*numbers), less_raw(*[0] * count), VALS)[1:]
                self.assertEqual(given[0], [n, *numbers] if count == n else REFUSED, (n, count))
                self.assertEqual(given[1], [n, *numbers])

    def test_none_at_the_beginning(self):
        self.assertEqual(ask(less_raw(), less_raw(2, 2), VALS), [REFUSED, REFUSED, [1, 0, 0]])

    def test_a_price_too_high_is_refused_wherever_it_stands(self):
        for n in range(1, 6):
            for place in range(n):
                for wrong in (20001, 20002, TOP - 1, TOP):
                    row = [2] * n
                    row[place] = wrong
                    self.assertEqual(ask(tell(*[1] * 2 ** n), less_raw(*row), VALS)[1:], [REFUSED, [n] + [1] * 2 ** n])

    def test_count_and_price_wrong(self):
        self.assertEqual(ask(less_raw(*[TOP] * 10), VALS), [REFUSED, [1, 0, 0]])

    def test_all_is_as_it_was_after_a_refusal(self):
        pair = told_second(2, [1, -2, 3, -4], [5, 6, -7, 8])
        for call in (less_raw(), less_raw(2), less_raw(2, 2, 2), less_raw(20001, 2), less_raw(2, 20001)):
            self.assertEqual(ask(*pair, call)[-1], REFUSED)
            self.assertEqual(both(*pair, call), ([2, 1, -2, 3, -4], [2, 5, 6, -7, 8]))

    def test_the_second_stays(self):
        pair = told_second(2, [1, -2, 3, -4], [5, 6, -7, 8])
        self.assertEqual(both(*pair, less(1, 2)), ([2, 1, -3, 1, -7], [2, 5, 6, -7, 8]))

    def test_n_is_that_of_the_latest(self):
        self.assertEqual(ask(tell(*[0] * 8), less(1, 1, 1), tell(0, 0), less(1, 1, 1), less(1))[3:],
                         [REFUSED, [1, 0, -1]])


if __name__ == "__main__":
    unittest.main()
