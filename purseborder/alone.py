"""One purse alone: the least that is enough in it when the other one doesn't count."""

from purseborder.borders import borders
from purseborder.errors import NoCount
from purseborder.floors import is_whole_within


def way_alone(way, purse):
    """The way with its coins for this purse alone."""
    if purse == 0:
        return (way[0], way[1], way[2], 0)
    return (way[0], way[1], 0, way[3])


def floor_alone(floor, purse):
    """The floor as it is played with this purse alone."""
    # Ways that differ in the other purse's coins alone become the same one, and a floor has each way once.
    ways = sorted(set([way_alone(way, purse) for way in floor[2]]))
    return (floor[0], floor[1], tuple(ways), ())


def alone(floor, purse):
    """For each place the least number of coins in this purse that is enough alone, or None."""
    if not is_whole_within(purse, 0, 1):
        raise NoCount(purse)
    # The other purse never falls, so a border has one pair at most, with nought in that purse.
    return tuple([border[0][purse] if border else None for border in borders(floor_alone(floor, purse))])
