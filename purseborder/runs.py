"""Steps by ways, changes of coins at stalls, and runs of deeds."""

from purseborder.errors import NoChange, NoCount, NoWay
from purseborder.floors import check_pair, check_place, is_from_nought_on, is_whole_within, stall_at


def is_way(floor, thing):
    """Whether it is the number of a way of the floor."""
    return is_whole_within(thing, 0, len(floor[2]) - 1)


def step_by(floor, pair, way):
    """The pair behind a step by the way of this number, or None where a purse is emptied."""
    coins = floor[2][way][2:]
    first = pair[0] + coins[0]
    second = pair[1] + coins[1]
    if first < 0 or second < 0:
        return None
    return (min(first, floor[0][0]), min(second, floor[0][1]))


def stepped(floor, pair, way):
    """The pair behind a step by the way of this number, or None; other pairs and ways are refused."""
    check_pair(floor, pair)
    if not is_way(floor, way):
        raise NoWay(way)
    return step_by(floor, pair, way)


def change_by(brims, stall, pair, times):
    """The pair behind so many changes at the stall, or None where the purse hasn't the coins to give."""
    purse = stall[1]
    left = pair[purse] - times * stall[2]
    if left < 0:
        return None
    # Coins only come into the other purse, so what is spilt time by time may as well be spilt at the end.
    got = min(pair[1 - purse] + times * stall[3], brims[1 - purse])
    if purse == 0:
        return (left, got)
    return (got, left)


def change_at(floor, place, pair, times):
    """The pair behind so many changes at the place, or None where they can't be done."""
    if times == 0:
        return (pair[0], pair[1])
    stall = stall_at(floor, place)
    if stall is None:
        return None
    return change_by(floor[0], stall, pair, times)


def changed(floor, place, pair, times):
    """The pair behind so many changes at the place, or None; other places, pairs and times are refused."""
    check_place(floor, place)
    check_pair(floor, pair)
    if not is_from_nought_on(times):
        raise NoCount(times)
    return change_at(floor, place, pair, times)


def check_way_from(floor, place, way):
    """Refuse what is no number of a way that leads from the place, whatever it is."""
    if not is_way(floor, way) or floor[2][way][0] != place:
        raise NoWay(way)


def made_ready(floor, place, pair, times):
    """The pair behind so many changes at the place; what can't be done is refused, whatever it is."""
    if not is_from_nought_on(times):
        raise NoChange(times)
    ready = change_at(floor, place, pair, times)
    if ready is None:
        raise NoChange(times)
    return ready


def behind_deed(floor, place, pair, deed):
    """The (place, pair) behind a deed, or None where it empties a purse; one that can't be done is refused."""
    times = deed[0]
    way = deed[1]
    check_way_from(floor, place, way)
    ready = made_ready(floor, place, pair, times)
    behind = step_by(floor, ready, way)
    if behind is None:
        return None
    return (floor[2][way][1], behind)


def run(floor, place, pair, deeds):
    """What is behind each of the deeds, as far as the first one that empties a purse."""
    check_place(floor, place)
    check_pair(floor, pair)
    told = []
    stand = (place, pair)
    for deed in deeds:
        stand = behind_deed(floor, stand[0], stand[1], deed)
        told.append(stand)
        if stand is None:
            break
    return told
