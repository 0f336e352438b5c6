"""Floors: tuples (brims, owners, ways, stalls), and what is asked of them."""

from purseborder.errors import NoPair, NoPlace

KEEPER = "keeper"
TAKER = "taker"

MOST_PLACES = 8
MOST_WAYS = 24
MOST_COINS = 12


def is_whole(thing):
    """Whether it is a whole number: Python counts truths as ints too, they are none here."""
    return isinstance(thing, int) and not isinstance(thing, bool)


def is_whole_within(thing, least, most):
    """Whether it is a whole number from least to most."""
    return is_whole(thing) and least <= thing <= most


def is_from_nought_on(thing):
    """Whether it is a whole number that isn't below 0, however great."""
    return is_whole(thing) and thing >= 0


def is_row_within(thing, bounds):
    """Whether it is a tuple of whole numbers, one within each of the bounds (least, most)."""
    if not isinstance(thing, tuple) or len(thing) != len(bounds):
        return False
    return all([is_whole_within(number, bound[0], bound[1]) for number, bound in zip(thing, bounds)])


def are_rows_within(thing, bounds):
    """Whether it is a tuple of such rows."""
    return isinstance(thing, tuple) and all([is_row_within(row, bounds) for row in thing])


def are_rising(things):
    """Whether each is less than the one behind it, so that none is there twice."""
    return all([one < other for one, other in zip(things, things[1:])])


def are_brims(thing):
    """Whether it can be the brims of a floor."""
    return is_row_within(thing, ((0, MOST_COINS), (0, MOST_COINS)))


def is_owner(thing):
    """Whether it is the text of one of the two hands."""
    return isinstance(thing, str) and thing in (KEEPER, TAKER)


def are_owners(thing):
    """Whether it can be the owners of a floor's places."""
    if not isinstance(thing, tuple) or not 1 <= len(thing) <= MOST_PLACES:
        return False
    return all([is_owner(owner) for owner in thing])


def are_ways(thing, places):
    """Whether it can be the ways of a floor with so many places."""
    place = (0, places - 1)
    coins = (-MOST_COINS, MOST_COINS)
    if not are_rows_within(thing, (place, place, coins, coins)):
        return False
    starts = [way[0] for way in thing]
    return len(thing) <= MOST_WAYS and are_rising(thing) and all([start in starts for start in range(places)])


def are_stalls(thing, owners):
    """Whether it can be the stalls of a floor whose places have these owners."""
    place = (0, len(owners) - 1)
    if not are_rows_within(thing, (place, (0, 1), (1, MOST_COINS), (0, MOST_COINS))):
        return False
    # Rising places alone say both: the stalls rise, and no place has two.
    return are_rising([stall[0] for stall in thing]) and all([owners[stall[0]] == KEEPER for stall in thing])


def is_floor(thing):
    """Whether a thing of any kind is a floor."""
    if not isinstance(thing, tuple) or len(thing) != 4:
        return False
    if not are_brims(thing[0]) or not are_owners(thing[1]):
        return False
    return are_ways(thing[2], len(thing[1])) and are_stalls(thing[3], thing[1])


def places_of(floor):
    """How many places the floor has."""
    return len(floor[1])


def check_place(floor, place):
    """Refuse what is no place of the floor, whatever it is."""
    if not is_whole_within(place, 0, places_of(floor) - 1):
        raise NoPlace(place)


def check_pair(floor, pair):
    """Refuse what is no pair within the brims of the floor, whatever it is."""
    if not is_row_within(pair, ((0, floor[0][0]), (0, floor[0][1]))):
        raise NoPair(pair)


def ways_from(floor, place):
    """The numbers of the ways that lead from the place, rising."""
    check_place(floor, place)
    return [number for number, way in enumerate(floor[2]) if way[0] == place]


def stall_at(floor, place):
    """The stall of the place, or None."""
    check_place(floor, place)
    for stall in floor[3]:
        if stall[0] == place:
            return stall
    return None
