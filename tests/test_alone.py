import unittest

from purseborder.alone import alone
from purseborder.borders import borders
from purseborder.errors import NoCount
from purseborder.floortexts import read_floor
from samples import FLOORS, Refusing, beyond, made_floors


def alone_otherwise(floor, purse):
    """Point 17, coin by coin: for each place the numbers of coins from which the keeper goes on, until none falls."""
    brim = floor[0][purse]
    held = [set(range(brim + 1)) for owner in floor[1]]
    while True:
        following = []
        for place, owner in enumerate(floor[1]):
            ways = [way for way in floor[2] if way[0] == place]
            good = set()
            for coins in range(brim + 1):
                ends = [(way[1], coins + way[2 + purse]) for way in ways]
                safe = [left >= 0 and min(left, brim) in held[end] for end, left in ends]
                if (any(safe) if owner == "keeper" else all(safe)):
                    good.add(coins)
            following.append(good)
        if following == held:
            return tuple(min(good) if good else None for good in held)
        held = following


class Alone(Refusing):
    def test_examples(self):
        self.assertEqual(alone(FLOORS["document"], 0), (0, 2))
        self.assertEqual(alone(FLOORS["document"], 1), (0, 0))
        self.assertEqual(alone(FLOORS["idle"], 0), (0,))
        self.assertEqual(alone(FLOORS["drain"], 0), (None,))
        self.assertEqual(alone(FLOORS["drain"], 1), (0,))
        self.assertEqual(alone(FLOORS["one way out"], 0), (0, 0, None))
        self.assertEqual(alone(FLOORS["one way out"], 1), (0, 0, 1))

    def test_none_nought_and_the_brim(self):
        floor = read_floor("brims 7 12; keeper; taker; taker; 0>0 0 0; 1>0 -7 -12; 2>0 -8 -1; 2>1 1 12")
        self.assertEqual(alone(floor, 0), (0, 7, None))
        self.assertEqual(alone(floor, 1), (0, 12, 1))

    def test_stalls_do_not_count(self):
        floor = read_floor("brims 5 5; keeper; 0>0 -1 0; stall 0 b 1 5")
        self.assertEqual(alone(floor, 0), (None,))
        self.assertEqual(alone(floor, 1), (0,))
        floor = read_floor("brims 5 5; keeper; keeper; 0>1 -3 0; 1>0 3 0; stall 0 b 1 5; stall 1 a 2 5")
        self.assertEqual(alone(floor, 0), (3, 0))
        self.assertEqual(alone(floor, 1), (0, 0))

    def test_ways_that_become_the_same(self):
        floor = read_floor("brims 4 4; taker; keeper; 0>1 -2 -4; 0>1 -2 0; 0>1 -2 4; 1>0 2 -1; 1>0 2 1")
        self.assertEqual(alone(floor, 0), (2, 0))
        self.assertEqual(alone(floor, 1), (None, None))

    def test_the_spilt_coins_count(self):
        floor = read_floor("brims 3 12; taker; keeper; 0>1 -3 0; 0>1 -2 0; 1>0 12 0")
        self.assertEqual(alone(floor, 0), (3, 0))
        floor = read_floor("brims 3 12; taker; keeper; 0>1 -4 0; 0>1 -2 0; 1>0 12 0")
        self.assertEqual(alone(floor, 0), (None, None))

    def test_coin_by_coin(self):
        for floor in list(FLOORS.values()) + made_floors(150) + made_floors(60, 12, 12, 8):
            for purse in (0, 1):
                told = alone(floor, purse)
                self.assertIs(type(told), tuple)
                self.assertEqual(told, alone_otherwise(floor, purse))

    def without_stalls(self):
        floors = list(FLOORS.values()) + made_floors(150) + made_floors(60, 12, 12, 8)
        return [floor[:3] + ((),) for floor in floors]

    def test_no_pair_of_a_border_has_fewer(self):
        for floor in self.without_stalls():
            least = (alone(floor, 0), alone(floor, 1))
            for place, border in enumerate(borders(floor)):
                for pair in border:
                    for purse in (0, 1):
                        self.assertIsNotNone(least[purse][place])
                        self.assertGreaterEqual(pair[purse], least[purse][place])

    def test_where_nothing_is_taken_out_of_the_other_purse(self):
        for floor in self.without_stalls():
            for purse in (0, 1):
                rows = [list(way) for way in floor[2]]
                for row in rows:
                    row[3 - purse] = abs(row[3 - purse])
                kind = floor[:2] + (tuple(sorted({tuple(row) for row in rows})), ())
                for border, coins in zip(borders(kind), alone(kind, purse)):
                    pair = (coins, 0) if purse == 0 else (0, coins)
                    self.assertEqual(border, () if coins is None else (pair,))

    def test_what_is_no_purse(self):
        for floor in FLOORS.values():
            for thing in beyond(2):
                self.refused(NoCount, "told", thing, alone, floor, thing)


if __name__ == "__main__":
    unittest.main()
