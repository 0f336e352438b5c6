"""Floors, things of any kind, and the document's words gone through pair by pair: what several tests hold against."""

import unittest

from purseborder.errors import NoPair, NoPlace
from purseborder.floors import is_floor
from purseborder.floortexts import read_floor

GREAT = 10 ** 399


class EqualToAll:
    def __eq__(self, other):
        return True


class EqualToNothing:
    def __eq__(self, other):
        raise RuntimeError("not to be asked")


NO_NUMBERS = (
    None, True, False, 0.0, 1.0, 0.5, float("nan"), float("inf"), 1j, "", "0", "1", "keeper", b"", b"0", [], [0],
    [1, 1], (), (0,), {}, {0: 0}, set(), frozenset(), range(1), object(), int, len, lambda: 0, NotImplemented, ...,
    iter(()), EqualToAll(), EqualToNothing(),
)
NO_COUNTS = NO_NUMBERS + ((0, 0), (1, 1), -1, -2, -GREAT, -10 ** 5000)


def beyond(many):
    """What is no number of one of so many things: of any kind, and one beyond the bounds."""
    return NO_COUNTS + (many, many + 1, many + 8, many + 24, GREAT, 10 ** 5000)


def no_pairs(floor):
    """What is no pair within the brims: of any kind, and one beyond the bounds."""
    first, second = floor[0]
    told = list(NO_NUMBERS) + [0, 1, -1, GREAT, [0, 0], [1, 1], (0, 0, 0), ((0, 0),), ((0, 0), (0, 0)), "00", range(2)]
    told += [{0: 0, 1: 0}, (first + 1, 0), (0, second + 1), (first + 1, second + 1), (-1, 0), (0, -1), (-1, -1)]
    for thing in NO_COUNTS + (GREAT, 10 ** 5000):
        told += [(thing, 0), (0, thing), (thing, thing)]
    return told


TEXTS = {
    "document": "brims 5 4; keeper; taker; 0>0 1 -1; 0>1 0 2; 1>0 -2 0; stall 0 b 2 1",
    "idle": "brims 3 3; keeper; 0>0 0 0",
    "idle taker": "brims 3 3; taker; 0>0 0 0",
    "drain": "brims 12 12; taker; 0>0 -1 0",
    "drain of both": "brims 12 5; keeper; 0>0 -1 -2",
    "no room": "brims 0 0; keeper; taker; 0>1 0 0; 1>0 0 0; 1>1 1 1",
    "no room and a loss": "brims 0 0; keeper; taker; 0>0 -1 0; 0>1 12 12; 1>0 0 0; 1>1 0 -1",
    "no room in one": "brims 0 12; taker; keeper; 0>1 0 -3; 0>1 1 -2; 1>0 0 2; 1>1 -1 5; stall 1 b 1 12",
    "give and take": "brims 4 4; taker; 0>0 -1 1; 0>0 1 -1",
    "great ways": "brims 12 12; keeper; taker; 0>1 -12 12; 0>1 12 -12; 1>0 -12 12; 1>0 12 -12",
    "fill": "brims 12 12; taker; keeper; 0>0 12 -12; 0>1 -12 12; 1>0 12 0; 1>1 -1 1",
    "stall a": "brims 12 12; keeper; 0>0 0 -2; 0>0 2 0; stall 0 a 3 2",
    "stall b": "brims 12 12; keeper; taker; 0>1 -1 0; 1>0 0 0; 1>0 0 1; stall 0 b 1 1",
    "stall for nought": "brims 6 6; keeper; taker; 0>1 0 1; 0>1 1 0; 1>0 -1 0; 1>0 0 -1; stall 0 a 2 0",
    "stall that gives all": "brims 12 12; keeper; 0>0 -1 -1; 0>0 0 -2; stall 0 b 12 12",
    "stalls": "brims 9 7; keeper; keeper; taker; 0>1 -2 0; 1>2 0 -3; 2>0 1 1; 2>1 2 0; stall 0 a 1 2; stall 1 b 2 3",
    "stall needed": "brims 12 12; keeper; taker; 0>1 0 -1; 1>0 1 0; 1>0 2 -1; stall 0 a 2 3",
    "stall of great use": "brims 12 12; keeper; taker; 0>1 -1 0; 0>1 0 -2; 1>0 -3 3; 1>0 0 3; stall 0 b 2 5",
    "steep": "brims 12 12; keeper; taker; 0>0 -1 1; 0>1 2 -3; 1>0 -1 3; 1>0 2 0",
    "long": "brims 11 7; keeper; keeper; keeper; keeper; taker; 0>2 0 -4; 0>3 4 0; 0>4 0 2; 1>0 -5 0; 1>1 3 -1; "
            "2>0 -1 5; 2>2 3 -4; 3>3 6 -4; 4>0 -5 2; 4>1 -3 7; stall 1 a 1 3; stall 2 a 1 1; stall 3 b 3 0",
    "wide borders": "brims 9 11; keeper; keeper; keeper; taker; keeper; 0>2 -6 1; 0>2 -5 -5; 1>3 3 -2; 2>2 0 -5; "
                    "2>2 2 6; 2>4 0 -3; 3>1 0 1; 3>2 0 -6; 4>0 -5 2; 4>4 -6 0; stall 0 b 2 2; stall 1 b 1 1; "
                    "stall 2 b 1 1; stall 4 b 3 3",
    "one way out": "brims 3 5; keeper; keeper; taker; 0>0 0 -1; 0>1 -3 0; 1>1 0 0; 2>0 0 -1; 2>2 -1 0",
}
FLOORS = {name: read_floor(text) for name, text in TEXTS.items()}

SLOW = read_floor("brims 12 12; keeper; 0>0 -1 12; 0>0 0 -1")
SLOWER = read_floor(
    "brims 12 12; keeper; keeper; keeper; keeper; keeper; keeper; keeper; keeper; 0>1 -1 12; 0>1 0 -1; "
    "1>2 0 0; 2>3 0 0; 3>4 0 0; 4>5 0 0; 5>6 0 0; 6>7 0 0; 7>0 0 0"
)


class Numbers:
    """Numbers that look like chance and are the same each time."""

    def __init__(self, start):
        self.state = start

    def below(self, bound):
        self.state = (self.state * 6364136223846793005 + 1442695040888963407) % 2 ** 64
        return (self.state >> 33) % bound

    def among(self, least, most):
        return least + self.below(most - least + 1)


def made_coins(numbers, most):
    """Coins of a way: mostly a gain in one purse and a loss in the other one, so that borders get several pairs."""
    kind = numbers.below(4)
    if kind == 0:
        return (numbers.among(-most, most), numbers.among(-most, most))
    coins = (numbers.among(-most, 0), numbers.among(0, most + 1) if most < 12 else numbers.among(0, 12))
    return coins if kind == 1 else coins[::-1]


def made_floor(start, brim=6, coins=3, places=4):
    numbers = Numbers(start)
    many = numbers.among(1, places)
    owners = tuple(("keeper", "keeper", "taker")[numbers.below(3)] for place in range(many))
    ways = set()
    for place in range(many):
        for again in range(numbers.among(1, 3)):
            ways.add((place, numbers.below(many)) + made_coins(numbers, coins))
    stalls = []
    for place in range(many):
        if owners[place] == "keeper" and numbers.below(2):
            stalls.append((place, numbers.below(2), numbers.among(1, 3), numbers.among(0, 3)))
    brims = (numbers.among(0, brim), numbers.among(brim // 2, brim))
    floor = (brims, owners, tuple(sorted(ways)), tuple(stalls))
    assert is_floor(floor), floor
    return floor


def made_floors(many, brim=6, coins=3, places=4):
    return [made_floor(start, brim, coins, places) for start in range(many)]


def small_floors():
    """Floors of which every place and pair may be asked for."""
    named = [floor for floor in FLOORS.values() if max(floor[0]) < 10]
    return named + made_floors(60, 4)


def places_and_pairs(floor):
    return [(place, pair) for place in range(len(floor[1])) for pair in pairs_within(floor[0])]


def pairs_within(brims):
    return [(x, y) for x in range(brims[0] + 1) for y in range(brims[1] + 1)]


def gone(floor, pair, way):
    """Point 8: the pair behind a step, or None."""
    purses = [pair[0] + floor[2][way][2], pair[1] + floor[2][way][3]]
    for purse in (0, 1):
        if purses[purse] < 0:
            return None
        while purses[purse] > floor[0][purse]:
            purses[purse] -= 1
    return tuple(purses)


def changes(floor, place, pair):
    """Point 9: the pairs behind 0, 1, 2 .. changes, as many as can be done."""
    told = [pair]
    for stall in floor[3]:
        if stall[0] == place:
            purses = list(pair)
            while purses[stall[1]] >= stall[2]:
                purses[stall[1]] -= stall[2]
                other = 1 - stall[1]
                purses[other] = min(purses[other] + stall[3], floor[0][other])
                told.append(tuple(purses))
    return told


def choices(floor, place, pair):
    """Point 10: for each deed (times, way) that can be done, (place, pair) behind it, or None where it empties."""
    told = {}
    for times, ready in enumerate(changes(floor, place, pair)):
        for way in range(len(floor[2])):
            if floor[2][way][0] == place:
                behind = gone(floor, ready, way)
                told[(times, way)] = None if behind is None else (floor[2][way][1], behind)
    return told


def going_on(floor, place, pair, held):
    """Point 11: whether the pair is held in the round behind this one."""
    good = [stand is not None and stand[1] in held[stand[0]] for stand in choices(floor, place, pair).values()]
    return any(good) if floor[1][place] == "keeper" else all(good)


def held_behind(floor, held):
    """Point 11: for each place the pairs that are held in the round behind this one."""
    places = range(len(floor[1]))
    return [{pair for pair in pairs_within(floor[0]) if going_on(floor, place, pair, held)} for place in places]


def held_in_rounds(floor):
    """Points 11 and 12: for each round, for each place the pairs within the brims that it holds."""
    told = [[set(pairs_within(floor[0])) for owner in floor[1]]]
    while True:
        behind = held_behind(floor, told[-1])
        if behind == told[-1]:
            return told
        told.append(behind)


def held_for_ever(floor):
    """Point 14: for each place the enough pairs."""
    return held_in_rounds(floor)[-1]


def lasting(floor):
    """Point 13: for each (place, pair) the number of steps that it lasts, None for ever."""
    told = {stand: None for stand in places_and_pairs(floor)}
    for number, held in reversed(list(enumerate(held_in_rounds(floor)))):
        for place, pair in told:
            if pair not in held[place]:
                told[place, pair] = number
    return told


def held_by(border, brims):
    """Point 6: the pairs within the brims that a border holds."""
    return {pair for pair in pairs_within(brims) if any(pair[0] >= x and pair[1] >= y for x, y in border)}


def is_border(border, brims):
    """Whether it is a tuple of pairs within the brims, rising, none at or above another one."""
    if type(border) is not tuple or list(border) != sorted(border):
        return False
    if not all(type(pair) is tuple and pair in pairs_within(brims) for pair in border):
        return False
    return all(a[0] < b[0] and a[1] > b[1] for a, b in zip(border, border[1:]))


class Refusing(unittest.TestCase):
    def refused(self, error, field, thing, asked, *arguments):
        with self.assertRaises(error) as taken:
            asked(*arguments)
        self.assertIs(type(taken.exception), error)
        self.assertIs(getattr(taken.exception, field), thing)

    def refused_without_field(self, error, asked, *arguments):
        with self.assertRaises(error) as taken:
            asked(*arguments)
        self.assertIs(type(taken.exception), error)
        self.assertEqual(vars(taken.exception), {})

    def place_and_pair_refused(self, asked):
        """What asks for a floor, a place and a pair refuses other places, then other pairs, of any kind."""
        for floor in (FLOORS["document"], FLOORS["idle"], FLOORS["idle taker"]):
            for thing in beyond(len(floor[1])):
                self.refused(NoPlace, "place", thing, asked, floor, thing, (1, 1))
            for place in range(len(floor[1])):
                for thing in no_pairs(floor):
                    self.refused(NoPair, "pair", thing, asked, floor, place, thing)
            for place in (None, True, -1, "0", [0], len(floor[1])):
                for pair in (None, [0, 0], (0, 13), (True, 0)):
                    self.refused(NoPlace, "place", place, asked, floor, place, pair)
