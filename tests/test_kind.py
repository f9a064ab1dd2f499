import itertools
import unittest

from tests.lines import FALLS, REFUSED, TOP, VALS, ask, cover, kind, set_value, tell


def code(things):
    return sum(2 ** (thing - 1) for thing in things)


def faults(n, numbers, k):
    """Every fault against kind k, straight from the words, over sets of things."""
    found = []
    for size in range(n + 1):
        for own in itertools.combinations(range(1, n + 1), size):
            for one in range(1, n + 1):
                for other in range(one + 1, n + 1):
                    if one in own or other in own:
                        continue
                    alone = numbers[code(own + (other,))] - numbers[code(own)]
                    beside = numbers[code(own + (one, other))] - numbers[code(own + (one,))]
                    if not (beside <= alone, beside >= alone, beside == alone)[k]:
                        found.append([code(own), one, other])
    return found


def wanted(n, numbers, k):
    found = faults(n, numbers, k)
    return [0, *min(found)] if found else [1]


def all_kinds(*numbers):
    return ask(tell(*numbers), kind(0), kind(1), kind(2))[1:]


class Kind(unittest.TestCase):
    def test_at_the_beginning_it_is_of_all_kinds(self):
        self.assertEqual(ask(kind(0), kind(1), kind(2)), [[1], [1], [1]])

    def test_of_one_thing_it_is_of_all_kinds(self):
        self.assertEqual(all_kinds(7, -9), [[1], [1], [1]])

    def test_each_just_as_much(self):
        self.assertEqual(all_kinds(3, 5, -1, 1), [[1], [1], [1]])

    def test_no_more(self):
        self.assertEqual(all_kinds(0, 2, 2, 3), [[1], [0, 0, 1, 2], [0, 0, 1, 2]])

    def test_no_less(self):
        self.assertEqual(all_kinds(0, 2, 2, 5), [[0, 0, 1, 2], [1], [0, 0, 1, 2]])

    def test_of_none(self):
        self.assertEqual(all_kinds(0, 1, 1, 1, 1, 2, 3, 3), [[0, 0, 2, 3], [0, 0, 1, 2], [0, 0, 1, 2]])

    def test_the_lowest_set_comes_first(self):
        # With the set 0 nothing breaks; with the set 1 the things 2 and 3 do.
        self.assertEqual(all_kinds(0, 0, 0, 0, 0, 0, 0, 1), [[0, 1, 2, 3], [1], [0, 1, 2, 3]])

    def test_the_lower_first_thing_comes_before_the_lower_second(self):
        # With the set 0 both 1 and 4, and 2 and 3, break kind 1.
        numbers = [bin(s).count("1") * 10 for s in range(16)]
        for s in range(16):
            numbers[s] -= (s & 9 == 9) + (s & 6 == 6)
        self.assertEqual(all_kinds(*numbers), [[1], [0, 0, 1, 4], [0, 0, 1, 4]])

    def test_the_lower_second_thing(self):
        numbers = [-(s & 5 == 5) - (s & 17 == 17) for s in range(32)]
        self.assertEqual(all_kinds(*numbers), [[1], [0, 0, 1, 3], [0, 0, 1, 3]])

    def test_the_highest_fault(self):
        numbers = [0] * 31 + [1]
        self.assertEqual(all_kinds(*numbers), [[0, 7, 4, 5], [1], [0, 7, 4, 5]])
        numbers[31] = -1
        self.assertEqual(all_kinds(*numbers), [[1], [0, 7, 4, 5], [0, 7, 4, 5]])

    def test_every_function_of_two_things(self):
        for numbers in itertools.product(range(-2, 3), repeat=4):
            self.assertEqual(all_kinds(*numbers), [wanted(2, numbers, k) for k in range(3)], numbers)

    def test_every_function_of_three_things(self):
        for numbers in itertools.product((-1, 0, 1), repeat=8):
            self.assertEqual(all_kinds(*numbers), [wanted(3, numbers, k) for k in range(3)], numbers)

    def test_one_set_otherwise_of_four_and_five_things(self):
        for n in (4, 5):
            for base in ([0] * 2 ** n, [s * s for s in range(2 ** n)], [-s * s for s in range(2 ** n)]):
                for s in range(2 ** n):
                    for number in (base[s] - 1, base[s] + 1):
                        numbers = base[:s] + [number] + base[s + 1:]
                        self.assertEqual(all_kinds(*numbers), [wanted(n, numbers, k) for k in range(3)])

    def test_cover_is_of_kind_0(self):
        self.assertEqual(ask(cover(3, 1, 7, 2, 3), kind(0), kind(1), kind(2))[1:], [[1], [0, 0, 1, 2], [0, 0, 1, 2]])

    def test_behind_set(self):
        self.assertEqual(ask(tell(0, 0, 0, 0), kind(2), set_value(3, 1), kind(2), kind(0), kind(1))[1:],
                         [[1], [0], [0, 0, 1, 2], [0, 0, 1, 2], [1]])

    def test_k_above_2_is_refused(self):
        for k in (3, 4, 5, TOP):
            self.assertEqual(ask(kind(k)), [REFUSED])
            self.assertEqual(ask(tell(0, 2, 2, 5), kind(k), VALS), [[2], REFUSED, [2, 0, 2, 2, 5]])

    def test_asking_changes_nothing(self):
        numbers = [0, 1, 1, 1, 1, 2, 3, 3]
        self.assertEqual(ask(tell(*numbers), kind(0), kind(1), kind(2), VALS)[-1], [3, *numbers])


class Falls(unittest.TestCase):
    def test_at_the_beginning(self):
        self.assertEqual(ask(FALLS), [[1]])

    def test_just_as_much_is_no_fall(self):
        self.assertEqual(ask(tell(4, 4, 4, 4), FALLS)[1], [1])

    def test_below_0_throughout_is_no_fall(self):
        self.assertEqual(ask(tell(-9, -8, -7, -6), FALLS)[1], [1])

    def test_one_thing(self):
        self.assertEqual(ask(tell(1, 0), FALLS)[1], [0, 0, 1])
        self.assertEqual(ask(tell(0, -1), FALLS)[1], [0, 0, 1])

    def test_the_lowest_thing_of_the_lowest_set(self):
        self.assertEqual(ask(tell(0, 0, -1, 0, -1, 0, 0, 0), FALLS)[1], [0, 0, 2])

    def test_the_lowest_set_comes_before_the_lowest_thing(self):
        # Thing 1 falls with the set 2, thing 3 with the set 0.
        self.assertEqual(ask(tell(0, 0, 5, 1, -1, 5, 5, 5), FALLS)[1], [0, 0, 3])

    def test_the_highest_fall(self):
        self.assertEqual(ask(tell(*[0] * 31, -1), FALLS)[1], [0, 15, 5])

    def test_every_function_of_three_things(self):
        for numbers in itertools.product((-1, 0, 1), repeat=8):
            found = [[s, thing] for s in range(8) for thing in (1, 2, 3)
                     if s // 2 ** (thing - 1) % 2 == 0 and numbers[s + 2 ** (thing - 1)] < numbers[s]]
            want = [0, *min(found)] if found else [1]
            self.assertEqual(ask(tell(*numbers), FALLS)[1], want, numbers)

    def test_one_set_otherwise_of_four_and_five_things(self):
        for n in (4, 5):
            for place in range(2 ** n):
                numbers = [0] * 2 ** n
                numbers[place] = 1
                higher = [t for t in range(1, n + 1) if not place >> (t - 1) & 1]
                want = [0, place, higher[0]] if higher else [1]
                self.assertEqual(ask(tell(*numbers), FALLS)[1], want)

    def test_cover_never_falls(self):
        self.assertEqual(ask(cover(3, 1, 7, 2, 3, 0, 4), FALLS)[1], [1])

    def test_asking_changes_nothing(self):
        self.assertEqual(ask(tell(3, 2, 1, 0), FALLS, VALS)[1:], [[0, 0, 1], [2, 3, 2, 1, 0]])


if __name__ == "__main__":
    unittest.main()
