"""Points 19 to 21: floors made of a floor, floors compared, and what never harms."""

import itertools
import unittest

from purseborder.borders import borders
from purseborder.errors import NoFloor, NoPlace, NoWay
from purseborder.floors import is_floor
from purseborder.floortexts import read_floor, show_floor
from purseborder.grown import (
    compare, mirrored, renumbered, with_brims, with_coins, with_owner, with_stall, with_way,
)
from samples import (
    FLOORS, GREAT, NO_COUNTS, NO_NUMBERS, Numbers, Refusing, beyond, held_for_ever, made_floors, pairs_within,
    small_floors,
)

DOCUMENT = FLOORS["document"]
STALLS = FLOORS["stalls"]
BEYOND_COINS = NO_NUMBERS + (13, -13, 14, GREAT, -GREAT, (0, 0))
FULL = ((3, 3), ("keeper", "taker"), tuple((0, 1, a, 1) for a in range(-11, 12)) + ((1, 0, 0, 0),), ())


def with_row(row, thing, spot):
    return row[:spot] + (thing,) + row[spot + 1:]


def no_rows(row):
    """Things of any kind that are no tuple of four whole numbers, made of one that is."""
    told = list(NO_COUNTS) + [list(row), row[:3], row + (0,), (row,), str(row), ()]
    return told + [with_row(row, thing, spot) for spot in range(4) for thing in NO_NUMBERS + ((0, 0),)]


class Made(Refusing):
    def is_made(self, text, made):
        self.assertIs(type(made), tuple)
        self.assertTrue(is_floor(made))
        self.assertEqual(show_floor(made), text)

    def no_floor(self, asked, *arguments):
        self.refused_without_field(NoFloor, asked, *arguments)

    def is_left(self, floor, asked, *arguments):
        """The floor handed in stays what it was, and what comes is the same each time."""
        before = repr(floor)
        self.assertEqual(asked(floor, *arguments), asked(floor, *arguments))
        self.assertEqual(repr(floor), before)


class WithWay(Made):
    def test_put_in_the_rising_order(self):
        for way, ways in (
            ((0, 0, -3, 7), "0>0 -3 7; 0>0 1 -1; 0>1 0 2; 1>0 -2 0"),
            ((0, 0, 1, -2), "0>0 1 -2; 0>0 1 -1; 0>1 0 2; 1>0 -2 0"),
            ((0, 0, 1, 0), "0>0 1 -1; 0>0 1 0; 0>1 0 2; 1>0 -2 0"),
            ((0, 1, 0, 3), "0>0 1 -1; 0>1 0 2; 0>1 0 3; 1>0 -2 0"),
            ((1, 0, -12, 12), "0>0 1 -1; 0>1 0 2; 1>0 -12 12; 1>0 -2 0"),
            ((1, 1, 12, -12), "0>0 1 -1; 0>1 0 2; 1>0 -2 0; 1>1 12 -12"),
        ):
            self.is_made("brims 5 4; keeper; taker; " + ways + "; stall 0 b 2 1", with_way(DOCUMENT, way))
            self.is_left(DOCUMENT, with_way, way)

    def test_a_way_twice(self):
        for floor in FLOORS.values():
            for way in floor[2]:
                self.no_floor(with_way, floor, way)

    def test_at_most_twenty_four(self):
        self.assertEqual(len(FULL[2]), 24)
        self.assertTrue(is_floor(FULL))
        self.no_floor(with_way, FULL, (1, 1, 0, 0))
        self.no_floor(with_way, FULL, FULL[2][0])
        one_less = FULL[:2] + (FULL[2][1:],) + FULL[3:]
        self.assertEqual(with_way(one_less, FULL[2][0]), FULL)
        self.no_floor(with_way, with_way(one_less, (1, 1, 0, 0)), (1, 1, 0, 1))

    def test_numbers_beyond_the_bounds(self):
        for row in ((2, 0, 0, 0), (0, 2, 0, 0), (-1, 0, 0, 0), (0, -1, 0, 0), (8, 0, 0, 0), (0, GREAT, 0, 0)):
            self.no_floor(with_way, DOCUMENT, row)
        for coins in (13, -13, GREAT, -GREAT):
            self.no_floor(with_way, DOCUMENT, (0, 0, coins, 0))
            self.no_floor(with_way, DOCUMENT, (0, 0, 0, coins))

    def test_things_of_any_kind(self):
        for thing in no_rows((0, 1, 0, 0)):
            self.no_floor(with_way, DOCUMENT, thing)


class WithCoins(Made):
    def test_put_in_the_rising_order(self):
        for number, a, b, ways in (
            (0, -12, 12, "0>0 -12 12; 0>1 0 2; 1>0 -2 0"),
            (1, 12, -12, "0>0 1 -1; 0>1 12 -12; 1>0 -2 0"),
            (2, 0, 0, "0>0 1 -1; 0>1 0 2; 1>0 0 0"),
            (2, -2, 0, "0>0 1 -1; 0>1 0 2; 1>0 -2 0"),
        ):
            self.is_made("brims 5 4; keeper; taker; " + ways + "; stall 0 b 2 1", with_coins(DOCUMENT, number, a, b))
            self.is_left(DOCUMENT, with_coins, number, a, b)
        floor = read_floor("brims 1 1; taker; 0>0 -1 0; 0>0 0 0; 0>0 1 0")
        self.is_made("brims 1 1; taker; 0>0 0 0; 0>0 1 0; 0>0 2 5", with_coins(floor, 0, 2, 5))
        self.is_made("brims 1 1; taker; 0>0 -1 -1; 0>0 -1 0; 0>0 0 0", with_coins(floor, 2, -1, -1))
        self.is_made("brims 1 1; taker; 0>0 -1 0; 0>0 1 0; 0>0 1 1", with_coins(floor, 1, 1, 1))

    def test_twice(self):
        floor = read_floor("brims 1 1; taker; 0>0 -1 0; 0>0 0 0; 0>0 1 0")
        for number, a in ((0, 0), (0, 1), (1, -1), (1, 1), (2, -1), (2, 0)):
            self.no_floor(with_coins, floor, number, a, 0)
        # The same coins by a way to elsewhere are another way.
        self.is_made("brims 5 4; keeper; taker; 0>0 0 2; 0>1 0 2; 1>0 -2 0; stall 0 b 2 1",
                     with_coins(DOCUMENT, 0, 0, 2))

    def test_coins_of_any_kind(self):
        for thing in BEYOND_COINS:
            self.no_floor(with_coins, DOCUMENT, 0, thing, 0)
            self.no_floor(with_coins, DOCUMENT, 1, 0, thing)
            self.no_floor(with_coins, DOCUMENT, 2, thing, thing)

    def test_no_way_ahead_of_no_floor(self):
        for floor in (DOCUMENT, FLOORS["idle"], FULL):
            for thing in beyond(len(floor[2])):
                self.refused(NoWay, "way", thing, with_coins, floor, thing, 0, 0)
                self.refused(NoWay, "way", thing, with_coins, floor, thing, 13, None)


class WithOwner(Made):
    def test_the_taker_gets_a_place(self):
        self.is_made("brims 5 4; taker; taker; 0>0 1 -1; 0>1 0 2; 1>0 -2 0", with_owner(DOCUMENT, 0, "taker"))
        ways = "; 0>1 -2 0; 1>2 0 -3; 2>0 1 1; 2>1 2 0"
        self.is_made("brims 9 7; taker; keeper; taker" + ways + "; stall 1 b 2 3", with_owner(STALLS, 0, "taker"))
        self.is_made("brims 9 7; keeper; taker; taker" + ways + "; stall 0 a 1 2", with_owner(STALLS, 1, "taker"))
        self.is_made("brims 9 7; taker; taker; taker" + ways,
                     with_owner(with_owner(STALLS, 0, "taker"), 1, "taker"))

    def test_the_keeper_gets_a_place(self):
        self.is_made("brims 5 4; keeper; keeper; 0>0 1 -1; 0>1 0 2; 1>0 -2 0; stall 0 b 2 1",
                     with_owner(DOCUMENT, 1, "keeper"))
        # A stall that fell away doesn't come back.
        self.is_made("brims 5 4; keeper; taker; 0>0 1 -1; 0>1 0 2; 1>0 -2 0",
                     with_owner(with_owner(DOCUMENT, 0, "taker"), 0, "keeper"))

    def test_the_same_owner(self):
        for floor in FLOORS.values():
            for place, owner in enumerate(floor[1]):
                self.assertEqual(with_owner(floor, place, owner), floor)
                for other in ("keeper", "taker"):
                    self.is_left(floor, with_owner, place, other)

    def test_owners_of_any_kind(self):
        things = [thing for thing in NO_COUNTS if not isinstance(thing, str)] + [0, 1, b"keeper", ["keeper"], ("taker",)]
        for thing in things + ["", "0", "Keeper", "keeper ", " taker", "taker\n", "keepe", "takers", "keeper; taker"]:
            self.no_floor(with_owner, DOCUMENT, 0, thing)
            self.no_floor(with_owner, DOCUMENT, 1, thing)
            self.no_floor(with_owner, FLOORS["idle"], 0, thing)

    def test_no_place_ahead_of_no_floor(self):
        for floor in (DOCUMENT, FLOORS["idle"], STALLS):
            for thing in beyond(len(floor[1])):
                for owner in ("keeper", "taker", None, "none", ["keeper"]):
                    self.refused(NoPlace, "place", thing, with_owner, floor, thing, owner)


class WithBrims(Made):
    def test_made(self):
        for brims in ((0, 0), (12, 12), (0, 12), (12, 0), (7, 3), (5, 4)):
            self.is_made(f"brims {brims[0]} {brims[1]}; keeper; taker; 0>0 1 -1; 0>1 0 2; 1>0 -2 0; stall 0 b 2 1",
                         with_brims(DOCUMENT, brims))
            self.is_left(DOCUMENT, with_brims, brims)

    def test_things_of_any_kind(self):
        for thing in NO_NUMBERS + (0, 1, [5, 4], (5,), (5, 4, 3), "54", range(2), ((5, 4),), {0: 5, 1: 4}):
            self.no_floor(with_brims, DOCUMENT, thing)
        for thing in beyond(13):
            self.no_floor(with_brims, DOCUMENT, (thing, 0))
            self.no_floor(with_brims, DOCUMENT, (0, thing))


class WithStall(Made):
    def test_a_stall_more(self):
        ways = "; 0>1 -2 0; 1>2 0 -3; 2>0 1 1; 2>1 2 0"
        bare = read_floor("brims 9 7; keeper; keeper; taker" + ways)
        self.is_made("brims 9 7; keeper; keeper; taker" + ways + "; stall 1 b 2 3", with_stall(bare, (1, 1, 2, 3)))
        for one, other in itertools.permutations([(0, 0, 1, 2), (1, 1, 2, 3)]):
            self.assertEqual(with_stall(with_stall(bare, one), other), STALLS)
            self.is_left(bare, with_stall, one)

    def test_in_the_place_of_one_that_was_there(self):
        for stall in ((0, 0, 1, 0), (0, 1, 12, 12), (0, 1, 2, 1), (0, 1, 1, 1), (0, 0, 12, 0)):
            self.assertEqual(with_stall(DOCUMENT, stall), DOCUMENT[:3] + ((stall,),))
            self.assertEqual(with_stall(STALLS, stall), STALLS[:3] + ((stall, STALLS[3][1]),))
            self.is_left(STALLS, with_stall, stall)
        self.assertEqual(with_stall(STALLS, (1, 0, 9, 9)), STALLS[:3] + (((0, 0, 1, 2), (1, 0, 9, 9)),))

    def test_at_a_place_of_the_takers(self):
        self.no_floor(with_stall, DOCUMENT, (1, 0, 1, 1))
        self.no_floor(with_stall, STALLS, (2, 0, 1, 1))
        self.no_floor(with_stall, FLOORS["idle taker"], (0, 0, 1, 1))

    def test_numbers_beyond_the_bounds(self):
        for stall in ((2, 0, 1, 1), (-1, 0, 1, 1), (-2, 0, 1, 1), (8, 0, 1, 1), (0, 2, 1, 1), (0, -1, 1, 1),
                      (0, 0, 0, 1), (0, 0, 13, 1), (0, 0, -1, 1), (0, 0, 1, 13), (0, 0, 1, -1), (0, 0, GREAT, 1)):
            self.no_floor(with_stall, DOCUMENT, stall)

    def test_things_of_any_kind(self):
        for thing in no_rows((0, 1, 2, 1)) + ["a", (0, "b", 2, 1), (0, "a", 2, 1)]:
            self.no_floor(with_stall, DOCUMENT, thing)


class Mirrored(Made):
    def test_made(self):
        self.is_made("brims 4 5; keeper; taker; 0>0 -1 1; 0>1 2 0; 1>0 0 -2; stall 0 a 2 1", mirrored(DOCUMENT))
        floor = read_floor("brims 1 2; taker; keeper; 0>1 -3 4; 0>1 0 0; 0>1 2 -5; 1>1 0 7; stall 1 a 3 0")
        self.is_made("brims 2 1; taker; keeper; 0>1 -5 2; 0>1 0 0; 0>1 4 -3; 1>1 7 0; stall 1 b 3 0", mirrored(floor))

    def test_twice_is_the_floor(self):
        for floor in list(FLOORS.values()) + made_floors(100):
            self.assertTrue(is_floor(mirrored(floor)))
            self.assertEqual(mirrored(mirrored(floor)), floor)
            self.is_left(floor, mirrored)

    def test_what_is_enough_is_mirrored(self):
        for floor in list(FLOORS.values()) + made_floors(40):
            turned = [tuple(sorted((y, x) for x, y in border)) for border in borders(floor)]
            self.assertEqual(borders(mirrored(floor)), turned)


class Renumbered(Made):
    def test_made(self):
        self.is_made("brims 5 4; taker; keeper; 0>1 -2 0; 1>0 0 2; 1>1 1 -1; stall 1 b 2 1",
                     renumbered(DOCUMENT, (1, 0)))
        self.is_made("brims 9 7; keeper; taker; keeper; 0>1 0 -3; 1>0 2 0; 1>2 1 1; 2>0 -2 0; "
                     "stall 0 b 2 3; stall 2 a 1 2", renumbered(STALLS, (2, 0, 1)))
        self.is_made("brims 9 7; taker; keeper; keeper; 0>1 1 1; 0>2 2 0; 1>2 -2 0; 2>0 0 -3; "
                     "stall 1 a 1 2; stall 2 b 2 3", renumbered(STALLS, (1, 2, 0)))

    def test_there_and_back(self):
        for floor in list(FLOORS.values()) + made_floors(40):
            for order in itertools.permutations(range(len(floor[1]))):
                back = tuple(order.index(number) for number in range(len(order)))
                self.assertTrue(is_floor(renumbered(floor, order)))
                self.assertEqual(renumbered(renumbered(floor, order), back), floor)
            self.assertEqual(renumbered(floor, tuple(range(len(floor[1])))), floor)
            self.is_left(floor, renumbered, order)

    def test_what_is_enough_goes_along(self):
        for floor in list(FLOORS.values()) + made_floors(40):
            for order in itertools.permutations(range(len(floor[1]))):
                there = borders(renumbered(floor, order))
                self.assertEqual([there[order[place]] for place in range(len(order))], borders(floor))


def compared(one, other):
    """Point 20 gone through pair by pair."""
    both = set(pairs_within(one[0])) & set(pairs_within(other[0]))
    told = []
    for here, there in zip(held_for_ever(one), held_for_ever(other)):
        here, there = here & both, there & both
        words = {(True, True): "alike", (True, False): "first", (False, True): "second", (False, False): "neither"}
        told.append(words[(here >= there, there >= here)])
    return told


class Compare(Refusing):
    def test_each_word(self):
        one = read_floor("brims 4 4; keeper; keeper; keeper; keeper; 0>0 0 0; 1>0 -1 0; 2>0 -2 -1; 3>0 -2 0")
        other = read_floor("brims 4 4; keeper; keeper; keeper; keeper; 0>0 1 0; 1>0 -1 -1; 2>0 -2 0; 3>0 0 -1")
        self.assertEqual(compare(one, other), ["alike", "first", "second", "neither"])
        self.assertEqual(compare(other, one), ["alike", "second", "first", "neither"])
        self.assertEqual(compare(one, one), ["alike"] * 4)

    def test_none_enough(self):
        idle, drain = FLOORS["idle"], read_floor("brims 3 3; keeper; 0>0 -1 0")
        self.assertEqual(compare(idle, drain), ["first"])
        self.assertEqual(compare(drain, idle), ["second"])
        self.assertEqual(compare(drain, FLOORS["drain"]), ["alike"])

    def test_brims_that_differ(self):
        wide = read_floor("brims 9 2; keeper; 0>0 -3 2; 0>0 0 -2; 0>0 4 -4")
        high = read_floor("brims 3 9; keeper; 0>0 -3 2; 0>0 0 -2; 0>0 4 -4")
        for one, other in itertools.product((wide, high, FLOORS["idle"], FLOORS["stall a"]), repeat=2):
            self.assertEqual(compare(one, other), compared(one, other))
        # From (4, 0) on, and from (0, 4) on: within the brims of both neither has a pair that is enough.
        far = read_floor("brims 9 3; keeper; keeper; 0>1 -4 0; 1>1 0 0")
        up = read_floor("brims 3 9; keeper; keeper; 0>1 0 -4; 1>1 0 0")
        self.assertEqual(borders(far), [((4, 0),), ((0, 0),)])
        self.assertEqual(borders(up), [((0, 4),), ((0, 0),)])
        self.assertEqual(compare(far, up), ["alike", "alike"])
        self.assertEqual(compare(far, with_brims(up, (4, 3))), ["first", "alike"])
        self.assertEqual(compare(with_brims(far, (3, 4)), up), ["second", "alike"])
        self.assertEqual(compare(far, with_brims(up, (4, 4))), ["first", "alike"])
        self.assertEqual(compare(with_brims(far, (4, 4)), with_brims(up, (4, 4))), ["neither", "alike"])

    def test_held_against_all_pairs(self):
        floors = small_floors()
        seen = set()
        for one, other in itertools.combinations(floors, 2):
            if len(one[1]) == len(other[1]):
                if len(seen) < 4 or floors.index(one) % 9 == 0:
                    told = compare(one, other)
                    self.assertEqual(told, compared(one, other))
                    self.assertEqual([{"first": "second", "second": "first"}.get(word, word) for word in told],
                                     compare(other, one))
                    seen.update(told)
        self.assertEqual(seen, {"alike", "first", "second", "neither"})

    def test_the_list_is_the_askers_own(self):
        told = compare(DOCUMENT, DOCUMENT)
        self.assertIs(type(told), list)
        told.clear()
        self.assertEqual(compare(DOCUMENT, DOCUMENT), ["alike", "alike"])

    def test_not_as_many_places(self):
        for one, other in itertools.permutations(list(FLOORS.values()) + [FULL], 2):
            if len(one[1]) != len(other[1]):
                self.refused_without_field(NoFloor, compare, one, other)


class NeverHarms(unittest.TestCase):
    """Point 21, for the floors made of a floor in as many ways as there are."""

    def setUp(self):
        self.floors = list(FLOORS.values()) + made_floors(30, 6, 3, 3)
        self.seen = set()

    def never_harms(self, made, floor):
        told = compare(made, floor)
        self.assertLessEqual(set(told), {"alike", "first"}, (made, floor))
        self.seen.update(told)

    def never_helps(self, made, floor):
        told = compare(made, floor)
        self.assertLessEqual(set(told), {"alike", "second"}, (made, floor))
        self.seen.update(told)

    def test_a_way_more(self):
        numbers = Numbers(21)
        for floor in self.floors:
            many = len(floor[1])
            for again in range(6):
                way = (numbers.below(many), numbers.below(many), numbers.among(-4, 4), numbers.among(-4, 4))
                if way not in floor[2]:
                    if floor[1][way[0]] == "keeper":
                        self.never_harms(with_way(floor, way), floor)
                    else:
                        self.never_helps(with_way(floor, way), floor)
        self.assertEqual(self.seen, {"alike", "first", "second"})

    def test_a_place_got_by_the_keeper(self):
        for floor in self.floors:
            for place, owner in enumerate(floor[1]):
                if owner == "taker":
                    self.never_harms(with_owner(floor, place, "keeper"), floor)
                else:
                    # The taker gets it, and its stall falls away: what was before is the one with more.
                    self.never_harms(floor, with_owner(floor, place, "taker"))
        self.assertEqual(self.seen, {"alike", "first"})

    def test_more_coins_by_a_way(self):
        for floor in self.floors:
            for number, way in enumerate(floor[2]):
                for more in ((1, 0), (0, 1), (2, 3)):
                    coins = (way[2] + more[0], way[3] + more[1])
                    if max(coins) <= 12 and way[:2] + coins not in floor[2]:
                        self.never_harms(with_coins(floor, number, coins[0], coins[1]), floor)
        self.assertEqual(self.seen, {"alike", "first"})

    def test_greater_brims(self):
        for floor in self.floors:
            for more in ((1, 0), (0, 1), (3, 2)):
                brims = (min(12, floor[0][0] + more[0]), min(12, floor[0][1] + more[1]))
                self.never_harms(with_brims(floor, brims), floor)
                self.never_helps(floor, with_brims(floor, brims))
        self.assertEqual(self.seen, {"alike", "first", "second"})

    def test_a_stall_more_or_a_better_one(self):
        for floor in self.floors:
            had = {stall[0]: stall for stall in floor[3]}
            for place, owner in enumerate(floor[1]):
                if owner == "keeper" and place not in had:
                    for stall in ((place, 0, 2, 1), (place, 1, 1, 3), (place, 0, 12, 0)):
                        self.never_harms(with_stall(floor, stall), floor)
            for place, purse, give, get in had.values():
                self.never_harms(with_stall(floor, (place, purse, give, min(12, get + 1))), floor)
                self.never_harms(with_stall(floor, (place, purse, max(1, give - 1), get)), floor)
        self.assertEqual(self.seen, {"alike", "first"})


if __name__ == "__main__":
    unittest.main()
