"""Calls as they lie in a list of calls, and answers taken apart call by call."""

from setfunctions.tools import answers

VALS = [3]
FALLS = [5]
LEAST = [6]
REST = [10]
RISEN = [11]
SWAP = [12]
PARTED = [13]
REFUSED = [-1]
TOP = 4294967295


def handed(number):
    return 2 * number if number >= 0 else -2 * number - 1


def tell_raw(*row):
    return [0, len(row), *row]


def tell(*numbers):
    return tell_raw(*[handed(number) for number in numbers])


def cover(n, *row):
    return [1, n, len(row), *row]


def set_raw(s, v):
    return [2, s, v]


def set_value(s, number):
    return [2, s, handed(number)]


def kind(k):
    return [4, k]


def less_raw(*row):
    return [7, len(row), *row]


def less(*numbers):
    return less_raw(*[handed(number) for number in numbers])


def onto(t):
    return [8, t]


def beyond(t):
    return [9, t]


def call_by_call(given):
    found = []
    place = 0
    while place < len(given):
        end = place + 1 + given[place]
        assert end <= len(given), "an answer is cut off"
        found.append(given[place + 1:end])
        place = end
    return found


def ask(*calls):
    """The answers of these calls, in one list, each a list of numbers."""
    return call_by_call(answers([number for call in calls for number in call]))


def both(*calls):
    """The first and the second function, each told, as they are behind these calls."""
    found = ask(*calls, VALS, SWAP)
    return found[-2], found[-1]


def told_second(n, first, second):
    """Calls behind which the functions of n things are these two."""
    return [tell(*[0] * 2 ** n), tell(*second), SWAP, tell(*first)]


def some_numbers(count, seed):
    """As many whole numbers from -9 to 9, without an order to be seen, the same each time."""
    found = []
    for place in range(count):
        seed = (seed * 1103515245 + 12345) % 2147483648
        found.append(seed // 65536 % 19 - 9)
    return found
