"""What is cheapest: the enough pair that costs least, and the least brims with which full purses are enough."""

from purseborder.borders import borders, enough
from purseborder.errors import NoCount
from purseborder.floors import check_place, is_from_nought_on, is_whole_within
from purseborder.grown import with_brims
from purseborder.pairs import least_pairs

MOST_BRIM = 3


def cost_of(pair, prices):
    """What the pair costs."""
    return prices[0] * pair[0] + prices[1] * pair[1]


def cheapest(floor, place, prices):
    """The least that an enough pair costs at the place, and the first pair of its border that costs so, or None."""
    check_place(floor, place)
    for price in (prices[0], prices[1]):
        if not is_from_nought_on(price):
            raise NoCount(price)
    # No price is below 0, so a pair of the border costs no more than those at or above it.
    return min([(cost_of(pair, prices), pair) for pair in borders(floor)[place]], default=None)


def brims_up_to(most):
    """All brims with neither of them above this number."""
    told = []
    for first in range(most + 1):
        told.extend([(first, second) for second in range(most + 1)])
    return told


def least_brims(floor, place, most):
    """The border of the brims, up to this number, with which full purses are enough at the place."""
    check_place(floor, place)
    if not is_whole_within(most, 0, MOST_BRIM):
        raise NoCount(most)
    return least_pairs([brims for brims in brims_up_to(most) if enough(with_brims(floor, brims), place, brims)])
