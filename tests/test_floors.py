import unittest

from purseborder.errors import NoPlace
from purseborder.floors import is_floor, places_of, stall_at, ways_from

FLOOR = (
    (5, 4),
    ("keeper", "taker", "keeper"),
    ((0, 0, 1, -1), (0, 1, 0, 2), (1, 0, -2, 0), (1, 2, -2, 0), (2, 2, 12, -12)),
    ((0, 1, 2, 1),),
)
THINGS = (
    None, True, False, 0, 1, -1, 4, 10 ** 400, 1.0, 0.5, float("nan"), 1j, "", "floor", "keeper", b"", b"keeper",
    [], [1, 2, 3, 4], (), (1,), (1, 2, 3, 4), ((), (), (), ()), (None, None, None, None), {}, {0: 1}, set(),
    frozenset(), range(4), object(), int, len, lambda: 0, NotImplemented, ..., iter(()),
)


class EqualToAll:
    def __eq__(self, other):
        return True


def one_place(brims=(3, 3), owners=("keeper",), ways=((0, 0, 0, 0),), stalls=()):
    return (brims, owners, ways, stalls)


def two_places(ways=((0, 1, 0, 0), (1, 0, 0, 0)), stalls=()):
    return ((3, 3), ("keeper", "keeper"), ways, stalls)


def ring(places):
    return ((1, 1), ("taker",) * places, tuple((k, (k + 1) % places, 0, 0) for k in range(places)), ())


class IsFloor(unittest.TestCase):
    def yes(self, thing):
        self.assertIs(is_floor(thing), True, thing)

    def no(self, thing):
        self.assertIs(is_floor(thing), False, thing)

    def test_floors(self):
        self.yes(FLOOR)
        self.yes(one_place())
        self.yes(one_place(owners=("taker",)))
        self.yes(two_places())

    def test_things_of_any_kind(self):
        for thing in THINGS:
            self.no(thing)

    def test_any_thing_in_the_place_of_a_part(self):
        for thing in THINGS:
            self.no(one_place(brims=thing))
            self.no(one_place(owners=thing))
            self.no(one_place(ways=thing))
            if thing != ():
                self.no(one_place(stalls=thing))

    def test_any_thing_within_a_part(self):
        for thing in THINGS:
            if thing != "keeper":
                self.no(one_place(owners=(thing,)))
            self.no(one_place(ways=(thing,)))
            self.no(one_place(ways=((0, 0, 0, 0), thing)))
            self.no(one_place(stalls=(thing,)))

    def test_parts_too_few_or_too_many(self):
        self.no(FLOOR[:3])
        self.no(FLOOR[1:])
        self.no(FLOOR + ((),))
        self.no((FLOOR[1], FLOOR[0], FLOOR[2], FLOOR[3]))
        self.no((FLOOR[0], FLOOR[1], FLOOR[3], FLOOR[2]))

    def test_brims(self):
        for number in (0, 1, 12):
            self.yes(one_place(brims=(number, 5)))
            self.yes(one_place(brims=(5, number)))
        for number in (-1, 13, -12, 10 ** 400, -10 ** 400, True, False, 1.0, "1", None, (1,), [1]):
            self.no(one_place(brims=(number, 5)))
            self.no(one_place(brims=(5, number)))
        for brims in ((), (1,), (1, 2, 3), [1, 2]):
            self.no(one_place(brims=brims))

    def test_how_many_places(self):
        for places in range(1, 9):
            self.yes(ring(places))
        self.no(ring(9))
        self.no(ring(10))
        self.no(one_place(owners=(), ways=()))
        self.no(one_place(owners=()))

    def test_owners(self):
        for owner in ("Keeper", "keeper ", " taker", "k", "", "nobody", "keepertaker"):
            self.no(one_place(owners=(owner,)))
            self.no(((3, 3), ("keeper", owner), ((0, 1, 0, 0), (1, 0, 0, 0)), ()))

    def test_what_only_says_that_it_is_equal(self):
        self.no(one_place(owners=(EqualToAll(),)))
        self.no(one_place(brims=(EqualToAll(), 1)))
        self.no(one_place(ways=(EqualToAll(),)))
        self.no(EqualToAll())

    def test_how_many_ways(self):
        rows = tuple((0, 0, a, b) for a in range(-12, 13) for b in (0, 1))
        self.yes(one_place(ways=rows[:23]))
        self.yes(one_place(ways=rows[:24]))
        self.no(one_place(ways=rows[:25]))
        self.no(one_place(ways=rows))
        self.no(one_place(ways=()))

    def test_coins(self):
        for coins in (-12, -1, 0, 1, 12):
            self.yes(one_place(ways=((0, 0, coins, 3),)))
            self.yes(one_place(ways=((0, 0, 3, coins),)))
        for coins in (-13, 13, 10 ** 400, -10 ** 400, True, False, 1.0, "1", None, [1]):
            self.no(one_place(ways=((0, 0, coins, 3),)))
            self.no(one_place(ways=((0, 0, 3, coins),)))

    def test_ends_of_ways(self):
        for end in (-1, 2, 8, True, False, 0.0, "0", None, (0,)):
            self.no(two_places(ways=((0, 0, 0, 0), (1, 1, 0, 0), (end, 0, 1, 1))))
            self.no(two_places(ways=((0, 0, 0, 0), (1, end, 1, 1))))
            self.no(two_places(ways=((0, end, 0, 0), (1, 1, 0, 0))))
            self.no(two_places(ways=((end, 0, -1, 0), (0, 1, 0, 0), (1, 1, 0, 0))))
        self.yes(two_places(ways=((0, 0, 0, 0), (1, 1, 0, 0))))

    def test_a_truth_in_the_place_of_an_equal_number(self):
        self.no(two_places(ways=((0, True, 0, 0), (1, 0, 0, 0))))
        self.no(two_places(ways=((False, 1, 0, 0), (1, 0, 0, 0))))
        self.no(two_places(stalls=((False, 0, 1, 0),)))
        self.no(two_places(stalls=((True, 0, 1, 0),)))
        self.no(one_place(stalls=((0, False, 1, 0),)))
        self.no(one_place(stalls=((0, True, 1, 0),)))
        self.no(one_place(stalls=((0, 0, True, 0),)))
        self.no(one_place(stalls=((0, 0, 1, False),)))

    def test_ways_of_other_lengths(self):
        for way in ((), (0,), (0, 0, 0), (0, 0, 0, 0, 0)):
            self.no(one_place(ways=(way,)))

    def test_ways_rise_each_once(self):
        self.yes(one_place(ways=((0, 0, 0, 0), (0, 0, 0, 1), (0, 0, 1, -5))))
        self.no(one_place(ways=((0, 0, 0, 0), (0, 0, 0, 0))))
        self.no(one_place(ways=((0, 0, 0, 1), (0, 0, 0, 0))))
        self.no(one_place(ways=((0, 0, 1, 0), (0, 0, 0, 1))))
        self.no(two_places(ways=((0, 1, 0, 0), (0, 0, 0, 0), (1, 0, 0, 0))))
        self.no(two_places(ways=((1, 0, 0, 0), (0, 1, 0, 0))))
        self.no(one_place(ways=((0, 0, 0, 0), (0, 0, 2, 0), (0, 0, 1, 0))))
        self.no(one_place(ways=((0, 0, 0, 0), (0, 0, 2, 0), (0, 0, 2, 0))))

    def test_from_each_place_leads_a_way(self):
        self.no(two_places(ways=((0, 1, 0, 0),)))
        self.no(two_places(ways=((1, 0, 0, 0),)))
        self.no(two_places(ways=((0, 0, 0, 0), (0, 1, 0, 0))))
        self.no(two_places(ways=((1, 0, 0, 0), (1, 1, 0, 0))))
        self.yes(two_places(ways=((0, 0, 0, 0), (1, 0, 0, 0))))
        for left_out in range(8):
            floor = ring(8)
            ways = floor[2][:left_out] + floor[2][left_out + 1:]
            self.no((floor[0], floor[1], ways, floor[3]))

    def test_stalls(self):
        self.yes(two_places(stalls=((0, 0, 1, 0),)))
        self.yes(two_places(stalls=((1, 1, 12, 12),)))
        self.yes(two_places(stalls=((0, 1, 5, 5), (1, 0, 1, 0))))
        for stall in ((), (0, 0, 1), (0, 0, 1, 0, 0), (0, "a", 1, 0), [0, 0, 1, 0]):
            self.no(two_places(stalls=(stall,)))

    def test_place_of_a_stall(self):
        self.yes((FLOOR[0], FLOOR[1], FLOOR[2], ((2, 0, 1, 1),)))
        self.yes((FLOOR[0], FLOOR[1], FLOOR[2], ((0, 0, 1, 1), (2, 0, 1, 1))))
        for place in (1, 3, -1, -3, 8, 0.0, "0", None):
            self.no((FLOOR[0], FLOOR[1], FLOOR[2], ((place, 0, 1, 1),)))
        self.no((FLOOR[0], FLOOR[1], FLOOR[2], ((0, 0, 1, 1), (1, 0, 1, 1))))

    def test_purse_of_a_stall(self):
        for purse in (0, 1):
            self.yes(one_place(stalls=((0, purse, 1, 1),)))
        for purse in (2, -1, 12, "a", None, 1.0):
            self.no(one_place(stalls=((0, purse, 1, 1),)))

    def test_what_a_stall_is_given_and_what_it_gets(self):
        for number in (1, 2, 12):
            self.yes(one_place(stalls=((0, 0, number, 1),)))
        for number in (0, 13, -1, 10 ** 400, True, 1.0, None):
            self.no(one_place(stalls=((0, 0, number, 1),)))
        for number in (0, 1, 12):
            self.yes(one_place(stalls=((0, 0, 1, number),)))
        for number in (-1, 13, -10 ** 400, False, 1.0, None):
            self.no(one_place(stalls=((0, 0, 1, number),)))

    def test_stalls_rise_for_no_place_two(self):
        self.no(two_places(stalls=((0, 0, 1, 0), (0, 0, 1, 0))))
        self.no(two_places(stalls=((0, 0, 1, 0), (0, 1, 1, 0))))
        self.no(two_places(stalls=((0, 0, 1, 0), (0, 0, 1, 1))))
        self.no(two_places(stalls=((1, 0, 1, 0), (0, 0, 1, 0))))
        self.no(two_places(stalls=((0, 0, 1, 0), (1, 0, 1, 0), (1, 0, 2, 0))))

    def test_lists_in_the_place_of_tuples(self):
        self.no(list(FLOOR))
        for part in range(4):
            self.no(FLOOR[:part] + (list(FLOOR[part]),) + FLOOR[part + 1:])
        for part in (2, 3):
            self.no(FLOOR[:part] + (tuple([list(row) for row in FLOOR[part]]),) + FLOOR[part + 1:])
        self.no(one_place(stalls=[]))

    def test_what_is_handed_in_stays(self):
        thing = [[1, 2], ["keeper"], [[0, 0, 0, 0]], []]
        self.no(thing)
        self.assertEqual(thing, [[1, 2], ["keeper"], [[0, 0, 0, 0]], []])


class Places(unittest.TestCase):
    def test_how_many(self):
        self.assertEqual(places_of(FLOOR), 3)
        for places in range(1, 9):
            self.assertEqual(places_of(ring(places)), places)

    def test_ways_from_each_place(self):
        self.assertEqual(ways_from(FLOOR, 0), [0, 1])
        self.assertEqual(ways_from(FLOOR, 1), [2, 3])
        self.assertEqual(ways_from(FLOOR, 2), [4])
        for place in range(8):
            self.assertEqual(ways_from(ring(8), place), [place])

    def test_the_list_is_the_askers_own(self):
        told = ways_from(FLOOR, 0)
        self.assertIs(type(told), list)
        told.append(99)
        told[0] = 77
        self.assertEqual(ways_from(FLOOR, 0), [0, 1])

    def test_stall_at_each_place(self):
        self.assertEqual(stall_at(FLOOR, 0), (0, 1, 2, 1))
        self.assertIs(type(stall_at(FLOOR, 0)), tuple)
        self.assertIsNone(stall_at(FLOOR, 1))
        self.assertIsNone(stall_at(FLOOR, 2))
        floor = two_places(stalls=((0, 0, 1, 2), (1, 1, 3, 4)))
        self.assertEqual(stall_at(floor, 0), (0, 0, 1, 2))
        self.assertEqual(stall_at(floor, 1), (1, 1, 3, 4))

    def test_what_is_no_place(self):
        for asked in (ways_from, stall_at):
            for thing in THINGS + (3, -3, 8, "0", [0], (0,), {0: 0}):
                if thing is not True and thing is not False and thing in (0, 1) and isinstance(thing, int):
                    continue
                with self.assertRaises(NoPlace) as refused:
                    asked(FLOOR, thing)
                self.assertIs(refused.exception.place, thing)
            for place in (1, 2):
                self.assertRaises(NoPlace, asked, one_place(), place)


if __name__ == "__main__":
    unittest.main()
