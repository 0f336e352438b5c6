import unittest

from purseborder.floortexts import read_floor
from purseborder.lasting import lasts, rounds
from samples import (
    FLOORS, SLOW, SLOWER, Refusing, choices, held_behind, held_by, held_in_rounds, is_border, made_floors,
    pairs_within, places_and_pairs, small_floors,
)

START = ((0, 0),)


class Rounds(unittest.TestCase):
    def test_of_the_document(self):
        self.assertEqual(rounds(FLOORS["document"]), [
            [START, START],
            [START, ((2, 0),)],
            [((0, 1), (2, 0)), ((2, 0),)],
            [((0, 2), (1, 1), (2, 0)), ((2, 1), (4, 0))],
            [((0, 2), (1, 1), (2, 0)), ((2, 2), (3, 1), (4, 0))],
        ])

    def test_where_the_first_one_stays(self):
        self.assertEqual(rounds(FLOORS["idle"]), [[START]])
        self.assertEqual(rounds(FLOORS["idle taker"]), [[START]])
        self.assertEqual(rounds(FLOORS["no room"]), [[START, START]])
        self.assertEqual(rounds(FLOORS["stall a"]), [[START]])

    def test_borders_that_become_empty(self):
        self.assertEqual(rounds(FLOORS["drain"]), [[((k, 0),)] for k in range(13)] + [[()]])
        self.assertEqual(rounds(FLOORS["drain of both"]), [[START], [((1, 2),)], [((2, 4),)], [()]])
        self.assertEqual(rounds(FLOORS["no room and a loss"]), [[START, START], [START, ()], [(), ()]])

    def test_the_hand_makes_the_difference(self):
        for hand, expected in (("keeper", ((0, 1), (1, 0))), ("taker", ((1, 1),))):
            floor = read_floor("brims 2 2; " + hand + "; 0>0 -1 1; 0>0 1 -1")
            self.assertEqual(rounds(floor)[1], [expected])

    def test_the_stall_makes_the_difference(self):
        self.assertEqual(rounds(read_floor("brims 5 5; keeper; 0>0 0 -2"))[1], [((0, 2),)])
        floor = read_floor("brims 5 5; keeper; 0>0 0 -2; stall 0 a 3 1")
        self.assertEqual(rounds(floor)[:3], [[START], [((0, 2), (3, 1))], [((0, 4), (3, 3))]])
        floor = read_floor("brims 5 5; keeper; 0>0 0 -2; stall 0 a 2 1")
        self.assertEqual(rounds(floor)[1], [((0, 2), (2, 1), (4, 0))])
        floor = read_floor("brims 5 5; keeper; 0>0 -2 0; stall 0 b 2 1")
        self.assertEqual(rounds(floor)[1], [((0, 4), (1, 2), (2, 0))])

    def held_to_point_11(self, floor):
        told = rounds(floor)
        self.assertIs(type(told), list)
        self.assertEqual(told[0], [START] * len(floor[1]))
        for number, borders in enumerate(told):
            self.assertIs(type(borders), list)
            self.assertEqual(len(borders), len(floor[1]))
            for border in borders:
                self.assertTrue(is_border(border, floor[0]), (floor, border))
            if number > 0:
                self.assertNotEqual(borders, told[number - 1])
        held = [[held_by(border, floor[0]) for border in borders] for borders in told]
        for now, following in zip(held, held[1:]):
            self.assertEqual(held_behind(floor, now), following, floor)
        self.assertEqual(held_behind(floor, held[-1]), held[-1], floor)

    def test_pair_by_pair(self):
        for floor in FLOORS.values():
            self.held_to_point_11(floor)

    def test_pair_by_pair_on_made_floors(self):
        for floor in made_floors(120) + made_floors(12, 12, 12, 8) + made_floors(12, 12, 3, 3):
            self.held_to_point_11(floor)

    def test_the_made_floors_are_of_all_sorts(self):
        floors = made_floors(120)
        ends = [border for floor in floors for border in rounds(floor)[-1]]
        self.assertTrue([border for border in ends if border == ()])
        self.assertTrue([border for border in ends if len(border) > 2])
        self.assertTrue([floor for floor in floors if len(set(floor[1])) == 2 and floor[3]])
        self.assertTrue([floor for floor in floors if not floor[3]])
        self.assertTrue([floor for floor in floors if 0 in floor[0]])

    def test_some_hundreds_pair_by_pair(self):
        self.held_to_point_11(SLOW)
        self.assertEqual(len(rounds(SLOW)), 170)

    def test_more_than_a_thousand(self):
        told = rounds(SLOWER)
        self.assertEqual(len(told), 1353)
        self.assertEqual(told[-1], [()] * 8)
        self.assertEqual(told[-2], [(), ((12, 12),), (), (), (), (), (), ()])
        self.assertEqual(told[7], [((0, 1), (1, 0))] + [START] + [((0, 1), (1, 0))] * 6)
        self.assertEqual(told[8], [((0, 1), (1, 0))] * 8)

    def test_the_list_is_the_askers_own(self):
        for name in ("document", "idle", "drain", "stalls"):
            floor = FLOORS[name]
            first = rounds(floor)
            expected = [list(borders) for borders in first]
            for borders in first:
                borders[0] = "other"
                borders.append("more")
            first.clear()
            self.assertEqual(rounds(floor), expected)
            self.assertEqual(lasts(floor, 0, (0, 0)), rank(expected, 0, (0, 0)))

    def test_no_list_stands_twice_in_what_is_told(self):
        for floor in FLOORS.values():
            told = rounds(floor)
            self.assertEqual(len({id(borders) for borders in told}), len(told))


def rank(told, place, pair):
    """Point 13: the number of the first round that doesn't hold the pair, by the words of point 6."""
    for number, borders in enumerate(told):
        if not any(pair[0] >= x and pair[1] >= y for x, y in borders[place]):
            return number
    return None


class Lasts(Refusing):
    def test_of_the_document(self):
        floor = FLOORS["document"]
        self.assertEqual(lasts(floor, 1, (1, 4)), 1)
        self.assertEqual(lasts(floor, 0, (0, 0)), 2)
        self.assertEqual(lasts(floor, 0, (0, 1)), 3)
        self.assertEqual(lasts(floor, 1, (2, 1)), 4)
        self.assertIsNone(lasts(floor, 1, (2, 2)))
        self.assertIsNone(lasts(floor, 0, (0, 2)))

    def test_of_purses_that_drain(self):
        for first in range(13):
            self.assertEqual(lasts(FLOORS["drain"], 0, (first, 12)), first + 1)
            self.assertEqual(lasts(FLOORS["drain"], 0, (first, 0)), first + 1)
        self.assertEqual(lasts(FLOORS["drain of both"], 0, (12, 5)), 3)
        self.assertEqual(lasts(FLOORS["drain of both"], 0, (1, 5)), 2)
        self.assertEqual(lasts(FLOORS["drain of both"], 0, (0, 5)), 1)

    def test_as_the_rounds_tell_it(self):
        for floor in small_floors():
            told = rounds(floor)
            for place, pair in places_and_pairs(floor):
                self.assertEqual(lasts(floor, place, pair), rank(told, place, pair))

    def test_pair_by_pair(self):
        for floor in made_floors(20, 4) + [FLOORS["no room"], FLOORS["no room and a loss"]]:
            held = held_in_rounds(floor)
            for place, pair in places_and_pairs(floor):
                out = [number for number, places in enumerate(held) if pair not in places[place]]
                self.assertEqual(lasts(floor, place, pair), out[0] if out else None)

    def test_what_the_hands_can_do_about_it(self):
        for floor in small_floors():
            number = {}
            for place, pair in places_and_pairs(floor):
                number[(place, pair)] = lasts(floor, place, pair)
            for place, pair in places_and_pairs(floor):
                behind = [0 if stand is None else number[stand] for stand in choices(floor, place, pair).values()]
                finite = [steps for steps in behind if steps is not None]
                if floor[1][place] == "keeper":
                    expected = None if len(finite) < len(behind) else 1 + max(finite)
                else:
                    expected = 1 + min(finite) if finite else None
                self.assertEqual(number[(place, pair)], expected)

    def test_more_coins_never_last_fewer_steps(self):
        for floor in small_floors():
            for place in range(len(floor[1])):
                number = {pair: lasts(floor, place, pair) for pair in pairs_within(floor[0])}
                for (x, y), steps in number.items():
                    for less in ((x - 1, y), (x, y - 1)):
                        if less in number and steps is not None:
                            self.assertIsNotNone(number[less])
                            self.assertLessEqual(number[less], steps)

    def test_some_hundreds_of_steps(self):
        for pair in pairs_within((12, 12)):
            self.assertEqual(lasts(SLOW, 0, pair), 13 * pair[0] + pair[1] + 1)
        for pair in ((0, 0), (0, 1), (1, 0), (5, 7), (12, 11), (12, 12)):
            steps = 8 * (13 * pair[0] + pair[1]) + 1
            self.assertEqual(lasts(SLOWER, 0, pair), steps)
            for place in range(1, 8):
                self.assertEqual(lasts(SLOWER, place, pair), steps + 8 - place)

    def test_refused(self):
        self.place_and_pair_refused(lasts)


if __name__ == "__main__":
    unittest.main()
