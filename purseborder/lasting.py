"""Rounds: from which pairs the keeper can go on for so many steps, and how long a pair lasts."""

from purseborder.floors import KEEPER, check_pair, check_place, places_of, stall_at, ways_from
from purseborder.pairs import at_or_above, both, either, holds, least_pairs


def border_ahead_of_way(brims, way, border):
    """The border of the pairs from which the way leads, without emptying, to a pair that the border holds."""
    # The border lies within the brims, so a pair that is spilt is still held: only what is too little counts.
    pairs = [(max(0, pair[0] - way[2]), max(0, pair[1] - way[3])) for pair in border]
    return least_pairs([pair for pair in pairs if at_or_above(brims, pair)])


def pairs_ahead_of_changes(brims, stall, pair):
    """The least pairs from which no change at the stall, one, two .. lead to the pair or above it."""
    purse = stall[1]
    pairs = []
    given = pair[purse]
    got = pair[1 - purse]
    while given <= brims[purse]:
        pairs.append((given, got) if purse == 0 else (got, given))
        given = given + stall[2]
        got = max(0, got - stall[3])
    return pairs


def border_ahead_of_changes(floor, place, border):
    """The border of the pairs from which some times of changing at the place lead to a pair that the border holds."""
    stall = stall_at(floor, place)
    if stall is None:
        return border
    pairs = []
    for pair in border:
        pairs.extend(pairs_ahead_of_changes(floor[0], stall, pair))
    return least_pairs(pairs)


def border_of_either(borders):
    """The border of the pairs that one of the borders holds at least."""
    joined = ()
    for border in borders:
        joined = either(joined, border)
    return joined


def border_of_all(borders):
    """The border of the pairs that each of the borders holds."""
    joined = ((0, 0),)
    for border in borders:
        joined = both(joined, border)
    return joined


def next_border(floor, place, last):
    """The border of the place in the round behind the last one."""
    ways = [floor[2][number] for number in ways_from(floor, place)]
    ahead = [border_ahead_of_way(floor[0], way, last[way[1]]) for way in ways]
    if floor[1][place] == KEEPER:
        return border_ahead_of_changes(floor, place, border_of_either(ahead))
    return border_of_all(ahead)


def next_round(floor, last, fresh):
    """The round behind the last one, where only the fresh places got another border in the last one."""
    following = list(last)
    # A place from which no way leads to a fresh one would be given the border that it has.
    for place in sorted(set([way[0] for way in floor[2] if way[1] in fresh])):
        following[place] = next_border(floor, place, last)
    return following


def rounds(floor):
    """The borders of the places, round by round, until a round is the same as the one ahead of it."""
    told = [[((0, 0),)] * places_of(floor)]
    fresh = list(range(places_of(floor)))
    while fresh:
        last = told[-1]
        following = next_round(floor, last, fresh)
        fresh = [place for place, border in enumerate(following) if border != last[place]]
        if fresh:
            told.append(following)
    return told


def first_without(told, place, pair):
    """The number of the first of the told rounds in which the place doesn't hold the pair, or None."""
    for number, held in enumerate(told):
        if not holds(held[place], pair):
            return number
    return None


def lasts(floor, place, pair):
    """How many steps the pair lasts at the place, or None where it lasts for ever."""
    check_place(floor, place)
    check_pair(floor, pair)
    return first_without(rounds(floor), place, pair)
