"""Calls as they lie in a list of calls, and answers parted call by call."""

from setfunctions.tools import answers

VALS = [3]
FALLS = [5]
LEAST = [6]
REFUSED = [-1]
TOP = 4294967295


def handed(number):
    return 2 * number if number >= 0 else -2 * number - 1


def tell_raw(*row):
    return [0, len(row), *row]


def tell(*numbers):
    return tell_raw(*[handed(number) for number in numbers])


def cover(n, *row):
    return [1, n, len(row), *row]


def set_raw(s, v):
    return [2, s, v]


def set_value(s, number):
    return [2, s, handed(number)]


def kind(k):
    return [4, k]


def parted(given):
    found = []
    place = 0
    while place < len(given):
        end = place + 1 + given[place]
        assert end <= len(given), "an answer is cut off"
        found.append(given[place + 1:end])
        place = end
    return found


def ask(*calls):
    """The answers of these calls, in one list, each a list of numbers."""
    return parted(answers([number for call in calls for number in call]))
