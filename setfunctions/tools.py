"""Functions on sets of at most five things: what a list of calls answers."""

REFUSED = -1

TELL = 0
COVER = 1
SET_VALUE = 2
VALS = 3
KIND = 4
FALLS = 5
LEAST = 6
LESS = 7
ONTO = 8
BEYOND = 9
REST = 10
RISEN = 11
SWAP = 12

# Call by call: how many whole numbers stand behind its number, and whether a row stands behind these.
WHOLE_NUMBERS = (0, 1, 2, 0, 1, 0, 0, 0, 1, 1, 0, 0, 0, 0)
HAS_ROW = (True, True, False, False, False, False, False, True, False, False, False, False, False, False)

MOST_THINGS = 5
MOST_HANDED = 20000
MOST_WEIGHT = 1000
MOST_POINTS = 20
MOST_KIND = 2

# How many sets there are of so many things; a thing stands in a set for as much as the things below it have sets.
SETS_OF = (1, 2, 4, 8, 16, 32)
THINGS_OF = {2: 1, 4: 2, 8: 3, 16: 4, 32: 5}


class Pair:
    """The first and the second function, both of as many things."""

    def __init__(self):
        self.things = 1
        self.first = [0, 0]
        self.second = [0, 0]

    def put_first(self, things, function):
        if things != self.things:
            self.second = [0] * SETS_OF[things]
        self.things = things
        self.first = function

    def told(self):
        return [self.things] + self.first


def whole_number(handed):
    """The whole number, 0 or more or below 0, that is handed over as this one."""
    if handed % 2 == 0:
        return handed // 2
    return -((handed + 1) // 2)


def with_thing(chosen, thing):
    return chosen | SETS_OF[thing - 1]


def things_outside(things, chosen):
    return [thing for thing in range(1, things + 1) if with_thing(chosen, thing) != chosen]


def brings(function, chosen, thing):
    return function[with_thing(chosen, thing)] - function[chosen]


def tell(pair, handed):
    things = THINGS_OF.get(len(handed), 0)
    if things == 0 or max(handed) > MOST_HANDED:
        return [REFUSED]
    pair.put_first(things, [whole_number(number) for number in handed])
    return [things]


def points_are_right(things, points):
    if len(points) % 2 != 0 or len(points) > 2 * MOST_POINTS:
        return False
    for place in range(0, len(points), 2):
        if points[place] > MOST_WEIGHT or points[place + 1] >= SETS_OF[things]:
            return False
    return True


def weight_met(points, chosen):
    weight = 0
    for place in range(0, len(points), 2):
        if points[place + 1] & chosen != 0:
            weight = weight + points[place]
    return weight


def cover(pair, things, points):
    # The count of things comes first: only a right one tells how many sets there are.
    if things < 1 or things > MOST_THINGS or not points_are_right(things, points):
        return [REFUSED]
    pair.put_first(things, [weight_met(points, chosen) for chosen in range(SETS_OF[things])])
    return pair.told()


def set_value(pair, chosen, handed):
    if chosen >= SETS_OF[pair.things] or handed > MOST_HANDED:
        return [REFUSED]
    pair.first[chosen] = whole_number(handed)
    return [0]


def breaks(asked, more):
    """Whether a thing may not bring so much more to the set with another than to the set alone."""
    if asked == 0:
        return more > 0
    if asked == 1:
        return more < 0
    return more != 0


def fault_at(pair, asked, chosen):
    """The answer of kind for the first fault with this set; without one, nothing."""
    outside = things_outside(pair.things, chosen)
    for lower in outside:
        for higher in outside:
            if lower < higher:
                alone = brings(pair.first, chosen, higher)
                beside = brings(pair.first, with_thing(chosen, lower), higher)
                if breaks(asked, beside - alone):
                    return [0, chosen, lower, higher]
    return []


def kind(pair, asked):
    if asked > MOST_KIND:
        return [REFUSED]
    for chosen in range(SETS_OF[pair.things]):
        fault = fault_at(pair, asked, chosen)
        if len(fault) > 0:
            return fault
    return [1]


def falls(pair):
    for chosen in range(SETS_OF[pair.things]):
        for thing in things_outside(pair.things, chosen):
            if brings(pair.first, chosen, thing) < 0:
                return [0, chosen, thing]
    return [1]


def least(pair):
    lowest = min(pair.first)
    least_sets = [chosen for chosen, number in enumerate(pair.first) if number == lowest]
    in_each = SETS_OF[pair.things] - 1
    in_some = 0
    for chosen in least_sets:
        in_each = in_each & chosen
        in_some = in_some | chosen
    return [lowest, len(least_sets), in_each, in_some]


def price_of(prices, chosen):
    price = 0
    for things_below, price_of_one in enumerate(prices):
        if chosen & SETS_OF[things_below] != 0:
            price = price + price_of_one
    return price


def less(pair, handed):
    # The count comes first: at least one number is there then, so that there is a highest.
    if len(handed) != pair.things or max(handed) > MOST_HANDED:
        return [REFUSED]
    prices = [whole_number(number) for number in handed]
    pair.first = [pair.first[chosen] - price_of(prices, chosen) for chosen in range(SETS_OF[pair.things])]
    return pair.told()


def onto(pair, kept):
    if kept >= SETS_OF[pair.things]:
        return [REFUSED]
    pair.first = [pair.first[chosen & kept] for chosen in range(SETS_OF[pair.things])]
    return pair.told()


def beyond(pair, joined):
    if joined >= SETS_OF[pair.things]:
        return [REFUSED]
    already = pair.first[joined]
    pair.first = [pair.first[chosen | joined] - already for chosen in range(SETS_OF[pair.things])]
    return pair.told()


def rest(pair):
    everything = SETS_OF[pair.things] - 1
    whole = pair.first[everything]
    pair.first = [whole - pair.first[everything ^ chosen] for chosen in range(SETS_OF[pair.things])]
    return pair.told()


def least_above(function, chosen):
    # A set that has all of this one is no lower a number than it.
    return min([function[wider] for wider in range(chosen, len(function)) if wider & chosen == chosen])


def risen(pair):
    pair.first = [least_above(pair.first, chosen) for chosen in range(SETS_OF[pair.things])]
    return pair.told()


def least_parting(pair, chosen):
    # A part may be empty or the whole set; it is no higher a number than the set.
    return min([pair.first[part] + pair.second[chosen ^ part] for part in range(chosen + 1) if part & chosen == part])


def parted(pair):
    pair.first = [least_parting(pair, chosen) for chosen in range(SETS_OF[pair.things])]
    return pair.told()


def swap(pair):
    former = pair.first
    pair.first = pair.second
    pair.second = former
    return pair.told()


def answer(pair, number, wholes, row):
    if number == TELL:
        return tell(pair, row)
    if number == COVER:
        return cover(pair, wholes[0], row)
    if number == SET_VALUE:
        return set_value(pair, wholes[0], wholes[1])
    if number == VALS:
        return pair.told()
    if number == KIND:
        return kind(pair, wholes[0])
    if number == FALLS:
        return falls(pair)
    if number == LEAST:
        return least(pair)
    if number == LESS:
        return less(pair, row)
    if number == ONTO:
        return onto(pair, wholes[0])
    if number == BEYOND:
        return beyond(pair, wholes[0])
    if number == REST:
        return rest(pair)
    if number == RISEN:
        return risen(pair)
    if number == SWAP:
        return swap(pair)
    return parted(pair)


def answers(calls):
    """What the calls, one behind another, answer: of each how many numbers, then these."""
    pair = Pair()
    given = []
    place = 0
    while place < len(calls):
        number = calls[place]
        end = place + 1 + WHOLE_NUMBERS[number]
        wholes = calls[place + 1:end]
        row = []
        if HAS_ROW[number]:
            start = end + 1
            end = start + calls[end]
            row = calls[start:end]
        numbers = answer(pair, number, wholes, row)
        given.append(len(numbers))
        given.extend(numbers)
        place = end
    return given
