"""Pairs of whole numbers from 0 on, and the borders of what lies at or above them."""


def at_or_above(pair, other):
    """Whether neither number of the pair is less than that of the other one."""
    return pair[0] >= other[0] and pair[1] >= other[1]


def least_pairs(pairs):
    """The border of the pairs: those that are not at or above another one, rising, each once."""
    least = []
    for pair in sorted(pairs):
        # Those ahead have no greater first number, and the last one kept has the least second one.
        if not least or pair[1] < least[-1][1]:
            least.append(pair)
    return tuple(least)


def holds(border, pair):
    """Whether the pair is at or above one of the border's."""
    return any([at_or_above(pair, own) for own in border])


def both(border, other):
    """The border that holds just the pairs that both borders hold."""
    # Along the rising first numbers, both hold a pair from the greater of their least second numbers on.
    steps = [(pair[0], 0, pair[1]) for pair in border] + [(pair[0], 1, pair[1]) for pair in other]
    lows = {}
    shared = []
    for first, side, second in sorted(steps):
        lows[side] = min(second, lows.get(side, second))
        if len(lows) == 2:
            shared.append((first, max(lows[0], lows[1])))
    return least_pairs(shared)


def either(border, other):
    """The border that holds just the pairs that one of the borders holds at least."""
    return least_pairs(list(border) + list(other))
