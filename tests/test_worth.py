"""Points 22 and 23: the enough pair that costs least, and the least brims."""

import unittest

from purseborder.borders import borders
from purseborder.errors import NoCount, NoPlace
from purseborder.floortexts import read_floor
from purseborder.worth import cheapest, least_brims
from samples import (
    FLOORS, GREAT, NO_COUNTS, Refusing, beyond, held_for_ever, is_border, made_floors, pairs_within, small_floors,
)

DOCUMENT = FLOORS["document"]
PRICES = (
    (0, 0), (0, 1), (1, 0), (1, 1), (2, 3), (3, 2), (1, 2), (2, 1), (1, 12), (12, 1), (0, 7), (7, 0), (5, 5),
    (GREAT, 0), (0, GREAT), (GREAT, GREAT), (GREAT, GREAT + 1), (GREAT + 1, GREAT), (1, GREAT), (GREAT, 1),
)


def cheapest_of_all(held, border, prices):
    """Point 22: gone through all enough pairs for the cost, and through the border's for the first one."""
    costs = [prices[0] * x + prices[1] * y for x, y in held]
    if not costs:
        return None
    return (min(costs), [pair for pair in border if prices[0] * pair[0] + prices[1] * pair[1] == min(costs)][0])


def least_brims_of_all(floor, place, most):
    """Point 23: gone through all brims, and through all others for each."""
    good = []
    for brims in pairs_within((most, most)):
        if brims in held_for_ever((brims,) + floor[1:])[place]:
            good.append(brims)
    return tuple(sorted(pair for pair in good if not any(
        pair != other and pair[0] >= other[0] and pair[1] >= other[1] for other in good)))


class Cheapest(Refusing):
    def test_the_documents_floor(self):
        self.assertEqual(borders(DOCUMENT), [((0, 2), (1, 1), (2, 0)), ((2, 2), (3, 1), (4, 0))])
        for place, prices, told in (
            (0, (1, 1), (2, (0, 2))), (0, (2, 1), (2, (0, 2))), (0, (1, 2), (2, (2, 0))), (0, (0, 0), (0, (0, 2))),
            (0, (0, 1), (0, (2, 0))), (0, (1, 0), (0, (0, 2))), (1, (1, 1), (4, (2, 2))), (1, (3, 4), (12, (4, 0))),
            (1, (4, 3), (14, (2, 2))), (1, (0, 9), (0, (4, 0))), (1, (9, 0), (18, (2, 2))),
            (1, (GREAT, GREAT + 1), (4 * GREAT, (4, 0))),
        ):
            found = cheapest(DOCUMENT, place, prices)
            self.assertEqual(found, told)
            self.assertIs(type(found), tuple)
            self.assertIs(type(found[1]), tuple)

    def test_one_in_the_middle(self):
        floor = read_floor("brims 12 12; keeper; keeper; 0>1 -5 0; 0>1 -2 -1; 0>1 0 -9; 1>1 0 0")
        self.assertEqual(borders(floor)[0], ((0, 9), (2, 1), (5, 0)))
        self.assertEqual(cheapest(floor, 0, (1, 1)), (3, (2, 1)))
        self.assertEqual(cheapest(floor, 0, (1, 3)), (5, (2, 1)))
        self.assertEqual(cheapest(floor, 0, (1, 4)), (5, (5, 0)))
        self.assertEqual(cheapest(floor, 0, (4, 1)), (9, (0, 9)))

    def test_none(self):
        for prices in PRICES:
            self.assertIsNone(cheapest(FLOORS["drain"], 0, prices))
            self.assertIsNone(cheapest(FLOORS["drain of both"], 0, prices))

    def test_held_against_all_enough_pairs(self):
        several = 0
        for floor in list(FLOORS.values()) + small_floors():
            for place, held in enumerate(held_for_ever(floor)):
                border = borders(floor)[place]
                several += len(border) > 1
                for prices in PRICES:
                    self.assertEqual(cheapest(floor, place, prices), cheapest_of_all(held, border, prices))
        self.assertGreater(several, 15)

    def test_refused(self):
        for floor in (DOCUMENT, FLOORS["drain"]):
            for thing in beyond(len(floor[1])):
                self.refused(NoPlace, "place", thing, cheapest, floor, thing, (1, 1))
                for prices in ((None, None), (-1, 1), (1, -1), (True, True), None, (), [], 0):
                    self.refused(NoPlace, "place", thing, cheapest, floor, thing, prices)
            for place in range(len(floor[1])):
                for thing in NO_COUNTS:
                    self.refused(NoCount, "told", thing, cheapest, floor, place, (thing, 0))
                    self.refused(NoCount, "told", thing, cheapest, floor, place, (0, thing))
                    for other in (None, False, "1", [0], -3, 0.5):
                        self.refused(NoCount, "told", thing, cheapest, floor, place, (thing, other))

    def test_the_prices_stay(self):
        prices = (2, 3)
        before = repr(DOCUMENT)
        self.assertEqual(cheapest(DOCUMENT, 0, prices), cheapest(DOCUMENT, 0, prices))
        self.assertEqual((prices, repr(DOCUMENT)), ((2, 3), before))


class LeastBrims(Refusing):
    def test_the_brims_are_put_in_the_place_of_the_floors_own(self):
        for brims in ("0 0", "1 5", "12 12", "3 0"):
            floor = read_floor("brims " + brims + "; keeper; taker; 0>1 -3 0; 0>1 -1 -1; 0>1 0 -2; 1>1 0 0")
            self.assertEqual(least_brims(floor, 0, 3), ((0, 2), (1, 1), (3, 0)))
            self.assertEqual(least_brims(floor, 0, 2), ((0, 2), (1, 1)))
            self.assertEqual(least_brims(floor, 0, 1), ((1, 1),))
            self.assertEqual(least_brims(floor, 0, 0), ())
            self.assertEqual(least_brims(floor, 1, 3), ((0, 0),))

    def test_what_is_spilt_is_missing_later(self):
        # From (1, 3) the keeper goes to (0, 3) or to (1, 2), as the first purse is full: both are too little.
        floor = read_floor("brims 12 12; keeper; taker; 0>1 -1 1; 0>1 1 -1; 1>0 -1 1; 1>0 1 -1")
        self.assertEqual(least_brims(floor, 0, 3), ((2, 2),))
        self.assertEqual(least_brims(floor, 1, 2), ((2, 2),))
        self.assertEqual(least_brims(floor, 1, 1), ())

    def test_always_and_never(self):
        for most in (0, 1, 2, 3):
            self.assertEqual(least_brims(FLOORS["idle"], 0, most), ((0, 0),))
            self.assertEqual(least_brims(FLOORS["drain"], 0, most), ())

    def test_held_against_all_brims(self):
        seen = set()
        for floor in list(FLOORS.values()) + made_floors(40, 6, 2, 3):
            for place in range(len(floor[1])):
                for most in (0, 1, 2, 3):
                    told = least_brims(floor, place, most)
                    self.assertEqual(told, least_brims_of_all(floor, place, most))
                    self.assertTrue(is_border(told, (most, most)))
                    seen.add(told)
        self.assertGreater(len(seen), 12)

    def test_refused(self):
        for floor in (DOCUMENT, FLOORS["idle"]):
            for thing in beyond(len(floor[1])):
                for most in (0, 3, 4, -1, None, True, "0"):
                    self.refused(NoPlace, "place", thing, least_brims, floor, thing, most)
            for place in range(len(floor[1])):
                for thing in beyond(4):
                    self.refused(NoCount, "told", thing, least_brims, floor, place, thing)

    def test_the_floor_stays(self):
        before = repr(DOCUMENT)
        self.assertEqual(least_brims(DOCUMENT, 1, 3), least_brims(DOCUMENT, 1, 3))
        self.assertEqual(repr(DOCUMENT), before)


if __name__ == "__main__":
    unittest.main()
