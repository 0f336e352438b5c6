"""What is enough for ever, and what the keeper and the taker do about it."""

from purseborder.floors import KEEPER, check_pair, check_place, places_of, ways_from
from purseborder.lasting import first_without, rounds
from purseborder.pairs import holds
from purseborder.runs import change_at, step_by


def borders(floor):
    """The border of the enough pairs of each place."""
    return rounds(floor)[-1]


def enough(floor, place, pair):
    """Whether the pair is enough for ever at the place."""
    check_place(floor, place)
    check_pair(floor, pair)
    return holds(borders(floor)[place], pair)


def leads_into(floor, pair, way, held):
    """Whether the way leads, without emptying, to a pair that the border of its place holds."""
    behind = step_by(floor, pair, way)
    return behind is not None and holds(held[floor[2][way][1]], behind)


def deed_into(floor, place, pair, held):
    """A deed at the place that leads, without emptying, to a pair that the borders hold, or None."""
    ways = ways_from(floor, place)
    times = 0
    ready = pair
    while ready is not None:
        for way in ways:
            if leads_into(floor, ready, way, held):
                return (times, way)
        times = times + 1
        ready = change_at(floor, place, pair, times)
    return None


def rows_at(floor, place, held):
    """The rows (pair, times, way) of the keeper's table for the place."""
    if floor[1][place] != KEEPER:
        return ()
    return tuple([(pair,) + deed_into(floor, place, pair, held) for pair in held[place]])


def table(floor):
    """The keeper's table: for each place the rows of its border's pairs, none at the taker's places."""
    held = borders(floor)
    return [rows_at(floor, place, held) for place in range(places_of(floor))]


def keeper_deed(floor, place, pair):
    """A deed behind which an enough pair is enough again; None where it isn't, or at a taker's place."""
    check_place(floor, place)
    check_pair(floor, pair)
    if floor[1][place] != KEEPER:
        return None
    # From a pair that isn't enough no deed leads to one that is.
    return deed_into(floor, place, pair, borders(floor))


def way_out_of(floor, place, pair, told):
    """A way by which, in the told rounds, a pair at a taker's place lasts fewer steps; None where it is enough."""
    steps = first_without(told, place, pair)
    if steps is None:
        return None
    # A taker's place holds what each way leads into the round ahead: here at least one way doesn't.
    return [way for way in ways_from(floor, place) if not leads_into(floor, pair, way, told[steps - 1])][0]


def taker_way(floor, place, pair):
    """A way by which a pair that isn't enough lasts fewer steps; None where it is, or at a keeper's place."""
    check_place(floor, place)
    check_pair(floor, pair)
    if floor[1][place] == KEEPER:
        return None
    return way_out_of(floor, place, pair, rounds(floor))
