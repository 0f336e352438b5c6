import unittest

from purseborder.borders import borders, enough, keeper_deed, table, taker_way
from purseborder.floors import is_floor
from purseborder.floortexts import read_floor
from purseborder.lasting import lasts, rounds
from samples import (
    FLOORS, SLOW, SLOWER, Refusing, choices, held_by, held_in_rounds, is_border, made_floors, pairs_within,
    places_and_pairs, small_floors,
)


class Borders(unittest.TestCase):
    def test_examples(self):
        self.assertEqual(borders(FLOORS["document"]), [((0, 2), (1, 1), (2, 0)), ((2, 2), (3, 1), (4, 0))])
        self.assertEqual(borders(FLOORS["idle"]), [((0, 0),)])
        self.assertEqual(borders(FLOORS["drain"]), [()])
        self.assertEqual(borders(FLOORS["one way out"]), [((3, 0),), ((0, 0),), ()])
        self.assertEqual(borders(FLOORS["stall needed"]), [((0, 3), (1, 2), (2, 0)), ((0, 2), (1, 1))])
        self.assertEqual(borders(SLOW), [()])

    def test_they_are_those_of_the_last_round(self):
        for floor in list(FLOORS.values()) + made_floors(60) + [SLOW, SLOWER]:
            told = borders(floor)
            self.assertIs(type(told), list)
            self.assertEqual(told, rounds(floor)[-1])

    def test_they_hold_what_is_held_for_ever(self):
        for floor in list(FLOORS.values()) + made_floors(60):
            for border, pairs in zip(borders(floor), held_in_rounds(floor)[-1]):
                self.assertTrue(is_border(border, floor[0]))
                self.assertEqual(held_by(border, floor[0]), pairs)

    def test_the_list_is_the_askers_own(self):
        floor = FLOORS["document"]
        for asked in (borders, table):
            told = asked(floor)
            expected = list(told)
            told[0] = ()
            told.append("more")
            told.reverse()
            self.assertEqual(asked(floor), expected)
            self.assertEqual(borders(floor), [((0, 2), (1, 1), (2, 0)), ((2, 2), (3, 1), (4, 0))])
            self.assertIs(enough(floor, 0, (1, 1)), True)


class Enough(Refusing):
    def test_just_what_is_at_or_above_the_border(self):
        for floor in small_floors():
            told = borders(floor)
            for place, pair in places_and_pairs(floor):
                expected = any(pair[0] >= x and pair[1] >= y for x, y in told[place])
                self.assertIs(enough(floor, place, pair), expected)
                self.assertIs(lasts(floor, place, pair) is None, expected)

    def test_with_a_coin_fewer_it_is_too_little(self):
        for floor in list(FLOORS.values()) + made_floors(40):
            for place, border in enumerate(borders(floor)):
                for x, y in border:
                    self.assertIs(enough(floor, place, (x, y)), True)
                    if x > 0:
                        self.assertIs(enough(floor, place, (x - 1, y)), False)
                    if y > 0:
                        self.assertIs(enough(floor, place, (x, y - 1)), False)

    def test_refused(self):
        self.place_and_pair_refused(enough)


class Table(unittest.TestCase):
    def test_examples(self):
        self.assertEqual(table(FLOORS["idle"]), [(((0, 0), 0, 0),)])
        self.assertEqual(table(FLOORS["idle taker"]), [()])
        self.assertEqual(table(FLOORS["drain of both"]), [()])
        self.assertEqual(table(FLOORS["document"])[1], ())
        self.assertEqual(table(FLOORS["one way out"]), [(((3, 0), 0, 1),), (((0, 0), 0, 2),), ()])

    def test_where_only_one_deed_does(self):
        floor = read_floor("brims 6 6; keeper; taker; 0>1 0 -2; 1>0 1 1; stall 0 a 1 1")
        self.assertEqual(borders(floor), [((0, 2), (1, 1), (2, 0)), ((0, 0),)])
        self.assertEqual(table(floor), [(((0, 2), 0, 0), ((1, 1), 1, 0), ((2, 0), 2, 0)), ()])

    def test_each_row_leads_to_an_enough_pair(self):
        for floor in list(FLOORS.values()) + made_floors(60) + [SLOW]:
            told = table(floor)
            self.assertIs(type(told), list)
            self.assertEqual(len(told), len(floor[1]))
            held = [held_by(border, floor[0]) for border in borders(floor)]
            for place, rows in enumerate(told):
                self.assertIs(type(rows), tuple)
                if floor[1][place] == "taker":
                    self.assertEqual(rows, ())
                    continue
                self.assertEqual(tuple(row[0] for row in rows), borders(floor)[place])
                for row in rows:
                    self.assertIs(type(row), tuple)
                    pair, times, way = row
                    stand = choices(floor, place, pair)[(times, way)]
                    self.assertIsNotNone(stand)
                    self.assertIn(stand[1], held[stand[0]])


class KeeperDeed(Refusing):
    def test_every_place_and_pair(self):
        for floor in small_floors():
            held = [held_by(border, floor[0]) for border in borders(floor)]
            for place, pair in places_and_pairs(floor):
                deed = keeper_deed(floor, place, pair)
                if floor[1][place] == "taker" or pair not in held[place]:
                    self.assertIsNone(deed)
                    continue
                self.assertIs(type(deed), tuple)
                stand = choices(floor, place, pair)[deed]
                self.assertIsNotNone(stand)
                self.assertIn(stand[1], held[stand[0]])

    def test_where_coins_are_to_be_changed(self):
        floor = read_floor("brims 6 6; keeper; taker; 0>1 0 -2; 1>0 1 1; stall 0 a 1 1")
        self.assertEqual(keeper_deed(floor, 0, (2, 0)), (2, 0))
        self.assertEqual(keeper_deed(floor, 0, (1, 1)), (1, 0))
        self.assertIsNone(keeper_deed(floor, 0, (1, 0)))
        self.assertIsNone(keeper_deed(floor, 1, (6, 6)))

    def test_refused(self):
        self.place_and_pair_refused(keeper_deed)


class TakerWay(Refusing):
    def test_every_place_and_pair(self):
        for floor in small_floors():
            told = {(place, pair): lasts(floor, place, pair) for place, pair in places_and_pairs(floor)}
            for place, pair in places_and_pairs(floor):
                way = taker_way(floor, place, pair)
                steps = told[(place, pair)]
                if floor[1][place] == "keeper" or steps is None:
                    self.assertIsNone(way)
                    continue
                self.assertIs(type(way), int)
                stand = choices(floor, place, pair)[(0, way)]
                if stand is not None:
                    self.assertIsNotNone(told[stand])
                    self.assertLess(told[stand], steps)

    def test_examples(self):
        self.assertEqual(taker_way(FLOORS["document"], 1, (1, 4)), 2)
        self.assertIsNone(taker_way(FLOORS["document"], 1, (2, 2)))
        self.assertIsNone(taker_way(FLOORS["document"], 0, (0, 0)))
        floor = read_floor("brims 5 5; taker; keeper; 0>0 -1 0; 0>1 0 0; 0>1 1 0; 1>1 0 -3")
        self.assertEqual(lasts(floor, 0, (5, 0)), 2)
        self.assertIn(taker_way(floor, 0, (5, 0)), (1, 2))
        self.assertEqual(taker_way(floor, 0, (0, 5)), 0)

    def test_refused(self):
        self.place_and_pair_refused(taker_way)


class BothHands(unittest.TestCase):
    """The whole: what the hands can do from each pair."""

    def test_from_an_enough_pair_the_keeper_goes_on(self):
        for floor in small_floors():
            held = [held_by(border, floor[0]) for border in borders(floor)]
            for place, pair in places_and_pairs(floor):
                stands = choices(floor, place, pair).values()
                good = [stand is not None and stand[1] in held[stand[0]] for stand in stands]
                wins = any(good) if floor[1][place] == "keeper" else all(good)
                self.assertEqual(wins, pair in held[place])

    def test_the_taker_wins_within_the_told_steps_and_not_within_fewer(self):
        for floor in small_floors():
            for place, pair in places_and_pairs(floor):
                steps = lasts(floor, place, pair)
                if steps is not None:
                    self.assertEqual(self.played(floor, place, pair), steps)

    def played(self, floor, place, pair):
        """How many steps it takes where the taker goes as told and the keeper does what lasts longest."""
        stand = (place, pair)
        count = 0
        while stand is not None:
            count += 1
            able = choices(floor, stand[0], stand[1])
            if floor[1][stand[0]] == "taker":
                stand = able[(0, taker_way(floor, stand[0], stand[1]))]
            else:
                stand = max(able.values(), key=lambda s: 0 if s is None else lasts(floor, s[0], s[1]))
        return count

    def grown(self, floor, greater):
        """Whether all that is enough on the floor is so on the greater one."""
        self.assertTrue(is_floor(greater), greater)
        for less, more in zip(borders(floor), borders(greater)):
            for pair in held_by(less, floor[0]):
                self.assertIn(pair, held_by(more, greater[0]), (floor, greater))

    def test_more_for_the_keeper_is_never_too_little(self):
        for floor in made_floors(60):
            brims, owners, ways, stalls = floor
            self.grown(floor, ((brims[0] + 1, brims[1]), owners, ways, stalls))
            self.grown(floor, ((brims[0], brims[1] + 3), owners, ways, stalls))
            for place, owner in enumerate(owners):
                others = owners[:place] + ("keeper",) + owners[place + 1:]
                self.grown(floor, (brims, others, ways, stalls))
                for way in ((place, 0, -3, 5), (place, len(owners) - 1, 5, -3)):
                    more = (brims, owners, tuple(sorted(set(ways) | {way})), stalls)
                    if owner == "keeper":
                        self.grown(floor, more)
                    else:
                        self.grown(more, floor)
            for way in ways:
                for richer in ((way[0], way[1], way[2] + 1, way[3]), (way[0], way[1], way[2], way[3] + 2)):
                    self.grown(floor, (brims, owners, tuple(sorted(set(ways) - {way} | {richer})), stalls))
            for stall in stalls:
                left = tuple(other for other in stalls if other != stall)
                self.grown((brims, owners, ways, left), floor)
                for better in ((stall[0], stall[1], 1, stall[3]), (stall[0], stall[1], stall[2], stall[3] + 1)):
                    self.grown(floor, (brims, owners, ways, tuple(sorted(left + (better,)))))


if __name__ == "__main__":
    unittest.main()
