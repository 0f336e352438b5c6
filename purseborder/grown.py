"""Floors made of a floor, and floors compared."""

from purseborder.borders import borders
from purseborder.errors import NoFloor, NoWay
from purseborder.floors import KEEPER, check_place, is_floor, is_owner, is_whole, places_of
from purseborder.pairs import at_or_above, either
from purseborder.runs import is_way

ALIKE = "alike"
FIRST = "first"
SECOND = "second"
NEITHER = "neither"


def is_row(thing):
    """Whether it is a tuple of four whole numbers, as ways and stalls are."""
    return isinstance(thing, tuple) and len(thing) == 4 and all([is_whole(number) for number in thing])


def floor_of(brims, owners, ways, stalls):
    """The floor with these parts, its ways and stalls put in their rising order; NoFloor where it is none."""
    # Things of other kinds can't be put in order, so they are refused ahead of it.
    if not all([is_row(row) for row in ways + stalls]):
        raise NoFloor()
    floor = (brims, tuple(owners), tuple(sorted(ways)), tuple(sorted(stalls)))
    if not is_floor(floor):
        raise NoFloor()
    return floor


def with_way(floor, way):
    """The floor with a way (from, to, a, b) more."""
    return floor_of(floor[0], floor[1], list(floor[2]) + [way], list(floor[3]))


def with_coins(floor, number, a, b):
    """The floor whose way of this number has these coins."""
    if not is_way(floor, number):
        raise NoWay(number)
    ways = list(floor[2])
    ways[number] = (ways[number][0], ways[number][1], a, b)
    return floor_of(floor[0], floor[1], ways, list(floor[3]))


def with_owner(floor, place, owner):
    """The floor whose place has this owner; a stall of a place that the taker gets falls away."""
    check_place(floor, place)
    if not is_owner(owner):
        raise NoFloor()
    owners = list(floor[1])
    owners[place] = owner
    return floor_of(floor[0], owners, list(floor[2]), [stall for stall in floor[3] if owners[stall[0]] == KEEPER])


def with_brims(floor, brims):
    """The floor with other brims."""
    return floor_of(brims, floor[1], list(floor[2]), list(floor[3]))


def with_stall(floor, stall):
    """The floor with a stall more, or with this one in the place of the one that was there."""
    if not is_row(stall):
        raise NoFloor()
    others = [other for other in floor[3] if other[0] != stall[0]]
    return floor_of(floor[0], floor[1], list(floor[2]), others + [stall])


def mirrored(floor):
    """The floor whose purses have changed about."""
    ways = [(way[0], way[1], way[3], way[2]) for way in floor[2]]
    stalls = [(stall[0], 1 - stall[1], stall[2], stall[3]) for stall in floor[3]]
    return floor_of((floor[0][1], floor[0][0]), floor[1], ways, stalls)


def renumbered(floor, order):
    """The floor whose places have the new numbers that the order tells, one for each place."""
    owners = [owner for number, owner in sorted(zip(order, floor[1]))]
    ways = [(order[way[0]], order[way[1]], way[2], way[3]) for way in floor[2]]
    stalls = [(order[stall[0]], stall[1], stall[2], stall[3]) for stall in floor[3]]
    return floor_of(floor[0], owners, ways, stalls)


def pairs_inside(border, brims):
    """The border of the pairs within the brims that the border holds."""
    return tuple([pair for pair in border if at_or_above(brims, pair)])


def word_for(border, other):
    """Which of two borders holds more."""
    if border == other:
        return ALIKE
    joined = either(border, other)
    if joined == border:
        return FIRST
    if joined == other:
        return SECOND
    return NEITHER


def compare(one, other):
    """For each place, in which of two floors more of the pairs within the brims of both are enough."""
    if places_of(one) != places_of(other):
        raise NoFloor()
    brims = (min(one[0][0], other[0][0]), min(one[0][1], other[0][1]))
    held = [pairs_inside(border, brims) for border in borders(one)]
    held_there = [pairs_inside(border, brims) for border in borders(other)]
    return [word_for(here, there) for here, there in zip(held, held_there)]
