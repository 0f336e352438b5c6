"""Points 24 and 25: hands that play for the keeper and for the taker."""

import unittest

from purseborder.errors import NoChange, NoMore, NoWay
from purseborder.hands import Keeper, Taker
from samples import (
    FLOORS, GREAT, NO_COUNTS, SLOW, Numbers, Refusing, beyond, choices, lasting, made_floors, places_and_pairs,
)

DOCUMENT = FLOORS["document"]
TABLES = {}


def tables(floor):
    """How long each (place, pair) lasts, gone through once for each floor."""
    if floor not in TABLES:
        TABLES[floor] = lasting(floor)
    return TABLES[floor]


def floors():
    return list(FLOORS.values()) + made_floors(40)


class Whatever:
    """Plays any deed that can be done, any way."""

    def __init__(self, floor, start):
        self.floor = floor
        self.numbers = Numbers(start)

    def among(self, stand):
        deeds = sorted(choices(self.floor, *stand))
        return deeds[self.numbers.below(len(deeds))]


class Longest:
    """Plays the deed behind which the pair lasts longest."""

    def __init__(self, floor):
        self.floor = floor

    def steps_behind(self, stand):
        told = choices(self.floor, *stand)
        steps = {deed: 0 if behind is None else tables(self.floor)[behind] for deed, behind in told.items()}
        return {deed: float("inf") if steps[deed] is None else steps[deed] for deed in sorted(steps)}

    def among(self, stand):
        steps = self.steps_behind(stand)
        return max(steps, key=steps.get)


class Shortest(Longest):
    """Plays the deed behind which the pair lasts least."""

    def among(self, stand):
        steps = self.steps_behind(stand)
        return min(steps, key=steps.get)


class Playing(Refusing):
    def stands(self, hand, stand, steps):
        self.assertEqual(hand.where(), stand)
        self.assertEqual(hand.steps(), steps)
        if stand is not None:
            self.assertIs(type(hand.where()), tuple)
            self.assertIs(type(hand.where()[1]), tuple)

    def keeper_plays(self, floor, hand, other):
        """One step with a keeper's hand; what it does can be done, and it stands behind it."""
        stand, steps = hand.where(), hand.steps()
        if floor[1][stand[0]] == "keeper":
            deed = hand.does()
            self.assertIs(type(deed), tuple)
        else:
            deed = other.among(stand)
            self.assertIsNone(hand.went(deed[1]))
        self.assertIn(deed, choices(floor, *stand))
        self.stands(hand, choices(floor, *stand)[deed], steps + 1)

    def taker_plays(self, floor, hand, other):
        """One step with a taker's hand; what it goes can be gone, and it stands behind it."""
        stand, steps = hand.where(), hand.steps()
        if floor[1][stand[0]] == "taker":
            deed = (0, hand.goes())
            self.assertIs(type(deed[1]), int)
        else:
            deed = other.among(stand)
            self.assertIsNone(hand.did(*deed))
        self.assertIn(deed, choices(floor, *stand))
        self.stands(hand, choices(floor, *stand)[deed], steps + 1)


class Made(Playing):
    def test_stands_as_told(self):
        for floor in FLOORS.values():
            for place, pair in places_and_pairs(floor)[::7]:
                for hand in (Keeper(floor, place, pair), Taker(floor, place, pair)):
                    self.stands(hand, (place, pair), 0)

    def test_refused(self):
        self.place_and_pair_refused(Keeper)
        self.place_and_pair_refused(Taker)


class KeepersHand(Playing):
    def test_never_loses_from_enough_pairs(self):
        seen = 0
        for floor in floors():
            told = tables(floor)
            most = max([steps for steps in told.values() if steps is not None], default=0) + 20
            for place, pair in [stand for stand in told if told[stand] is None][::9]:
                for other in (Whatever(floor, pair[0]), Whatever(floor, pair[1] + 100), Shortest(floor)):
                    hand = Keeper(floor, place, pair)
                    for step in range(most):
                        self.keeper_plays(floor, hand, other)
                        self.assertIsNone(told[hand.where()])
                    seen += 1
        self.assertGreater(seen, 300)

    def test_from_every_enough_pair_of_the_keepers(self):
        for floor in floors():
            told = tables(floor)
            for place, pair in told:
                if told[place, pair] is None and floor[1][place] == "keeper":
                    hand = Keeper(floor, place, pair)
                    self.keeper_plays(floor, hand, None)
                    self.assertIsNone(told[hand.where()])

    def test_any_deed_from_other_pairs(self):
        emptied = 0
        for floor in floors():
            told = tables(floor)
            for place, pair in [stand for stand in told if told[stand] is not None]:
                hand = Keeper(floor, place, pair)
                for step in range(told[place, pair]):
                    if hand.where() is not None:
                        self.keeper_plays(floor, hand, Shortest(floor))
                # The taker plays its best, so it has won by now, whatever was done.
                self.assertIsNone(hand.where())
                self.assertLessEqual(hand.steps(), told[place, pair])
                emptied += 1
        self.assertGreater(emptied, 1000)

    def test_enough_again_where_the_taker_lets_it(self):
        floor = FLOORS["one way out"]
        hand = Keeper(floor, 2, (3, 0))
        self.assertEqual(tables(floor)[2, (3, 0)], 1)
        hand.went(4)
        self.stands(hand, (2, (2, 0)), 1)
        hand = Keeper(floor, 2, (3, 1))
        hand.went(3)
        self.stands(hand, (0, (3, 0)), 1)
        self.assertEqual(hand.does(), (0, 1))
        for step in range(3, 30):
            self.assertEqual(hand.does(), (0, 2))
            self.stands(hand, (1, (0, 0)), step)

    def test_no_more(self):
        hand = Keeper(DOCUMENT, 1, (4, 0))
        self.refused_without_field(NoMore, hand.does)
        self.stands(hand, (1, (4, 0)), 0)
        hand.went(2)
        self.stands(hand, (0, (2, 0)), 1)
        for way in (0, 1, 2) + beyond(3):
            self.refused_without_field(NoMore, hand.went, way)
        self.stands(hand, (0, (2, 0)), 1)
        self.assertEqual(hand.does(), (0, 1))
        self.stands(hand, (1, (2, 2)), 2)

    def test_no_more_behind_the_end(self):
        hand = Keeper(DOCUMENT, 1, (1, 4))
        self.assertIsNone(hand.went(2))
        self.stands(hand, None, 1)
        for again in range(3):
            self.refused_without_field(NoMore, hand.does)
            for way in (2, 0) + beyond(3):
                self.refused_without_field(NoMore, hand.went, way)
            self.stands(hand, None, 1)
        hand = Keeper(FLOORS["drain of both"], 0, (2, 3))
        self.assertEqual(hand.does(), (0, 0))
        self.stands(hand, (0, (1, 1)), 1)
        self.assertEqual(hand.does(), (0, 0))
        self.stands(hand, None, 2)
        self.refused_without_field(NoMore, hand.does)
        self.refused_without_field(NoMore, hand.went, 0)
        self.stands(hand, None, 2)

    def test_no_way(self):
        hand = Keeper(DOCUMENT, 1, (4, 3))
        for thing in beyond(3) + (0, 1):
            self.refused(NoWay, "way", thing, hand.went, thing)
            self.stands(hand, (1, (4, 3)), 0)
        hand.went(2)
        self.stands(hand, (0, (2, 3)), 1)


class TakersHand(Playing):
    def test_wins_from_other_pairs_within_the_told_number(self):
        for floor in floors():
            told = tables(floor)
            for place, pair in [stand for stand in told if told[stand] is not None][::3]:
                for other in (Whatever(floor, pair[0]), Whatever(floor, pair[1] + 100), Longest(floor)):
                    hand = Taker(floor, place, pair)
                    left = told[place, pair]
                    while hand.where() is not None:
                        self.taker_plays(floor, hand, other)
                        if hand.where() is not None:
                            self.assertLess(told[hand.where()], left)
                            left = told[hand.where()]
                    self.assertLessEqual(hand.steps(), told[place, pair])
                # The last of the keepers plays its best: then it can't be done within fewer.
                self.assertEqual(hand.steps(), told[place, pair])

    def test_from_every_other_pair_of_the_takers(self):
        for floor in floors():
            told = tables(floor)
            for place, pair in told:
                if told[place, pair] is not None and floor[1][place] == "taker":
                    hand = Taker(floor, place, pair)
                    self.taker_plays(floor, hand, None)
                    behind = hand.where()
                    self.assertTrue(behind is None or told[behind] < told[place, pair])

    def test_a_long_play(self):
        told = tables(SLOW)
        self.assertEqual(told[0, (12, 12)], 169)
        hand = Taker(SLOW, 0, (12, 12))
        for step in range(169):
            self.assertIsNotNone(hand.where())
            self.taker_plays(SLOW, hand, Longest(SLOW))
        self.stands(hand, None, 169)

    def test_any_way_from_enough_pairs(self):
        for floor in floors():
            told = tables(floor)
            for place, pair in [stand for stand in told if told[stand] is None][::5]:
                hand = Taker(floor, place, pair)
                for step in range(8):
                    self.taker_plays(floor, hand, Longest(floor))
                    self.assertIsNone(told[hand.where()])

    def test_wins_where_the_keeper_errs(self):
        floor = FLOORS["one way out"]
        hand = Taker(floor, 0, (3, 1))
        self.assertIsNone(tables(floor)[0, (3, 1)])
        hand.did(0, 0)
        self.stands(hand, (0, (3, 0)), 1)
        self.assertIsNone(hand.did(0, 0))
        self.stands(hand, None, 2)

    def test_no_more(self):
        hand = Taker(DOCUMENT, 0, (3, 3))
        self.refused_without_field(NoMore, hand.goes)
        self.stands(hand, (0, (3, 3)), 0)
        hand.did(1, 1)
        self.stands(hand, (1, (4, 3)), 1)
        for way in (0, 1, 2) + beyond(3):
            for times in (0, 1, None, -1):
                self.refused_without_field(NoMore, hand.did, times, way)
        self.stands(hand, (1, (4, 3)), 1)
        self.assertEqual(hand.goes(), 2)
        self.stands(hand, (0, (2, 3)), 2)

    def test_no_more_behind_the_end(self):
        hand = Taker(DOCUMENT, 1, (1, 4))
        self.assertEqual(hand.goes(), 2)
        self.stands(hand, None, 1)
        for again in range(3):
            self.refused_without_field(NoMore, hand.goes)
            for way in (0, 1, 2) + beyond(3):
                self.refused_without_field(NoMore, hand.did, 0, way)
                self.refused_without_field(NoMore, hand.did, None, way)
            self.stands(hand, None, 1)
        hand = Taker(DOCUMENT, 0, (3, 0))
        self.assertIsNone(hand.did(0, 0))
        self.stands(hand, None, 1)
        self.refused_without_field(NoMore, hand.did, 0, 0)
        self.refused_without_field(NoMore, hand.goes)
        self.stands(hand, None, 1)

    def test_no_way_then_no_change(self):
        hand = Taker(DOCUMENT, 0, (3, 3))
        for way in beyond(3) + (2,):
            for times in (0, 1, 2, GREAT, None, -1, True, "0"):
                self.refused(NoWay, "way", way, hand.did, times, way)
                self.stands(hand, (0, (3, 3)), 0)
        for times in NO_COUNTS + (2, 3, GREAT, 10 ** 5000):
            for way in (0, 1):
                self.refused(NoChange, "times", times, hand.did, times, way)
                self.stands(hand, (0, (3, 3)), 0)
        hand.did(1, 0)
        self.stands(hand, (0, (5, 0)), 1)
        self.refused(NoChange, "times", 1, hand.did, 1, 1)
        self.stands(hand, (0, (5, 0)), 1)

    def test_no_change_where_there_is_no_stall(self):
        hand = Taker(FLOORS["idle"], 0, (3, 3))
        for times in NO_COUNTS + (1, 2, GREAT):
            self.refused(NoChange, "times", times, hand.did, times, 0)
            self.stands(hand, (0, (3, 3)), 0)
        hand.did(0, 0)
        self.stands(hand, (0, (3, 3)), 1)


class BothHands(Playing):
    def play(self, floor, place, pair, most):
        """Both hands against one another, for so many steps at most: they stand alike all along."""
        keeper, taker = Keeper(floor, place, pair), Taker(floor, place, pair)
        for step in range(1, most + 1):
            if floor[1][keeper.where()[0]] == "keeper":
                taker.did(*keeper.does())
            else:
                keeper.went(taker.goes())
            self.stands(keeper, taker.where(), step)
            self.stands(taker, keeper.where(), step)
            if keeper.where() is None:
                break
        return keeper

    def test_against_one_another(self):
        for floor in floors():
            told = tables(floor)
            most = max([steps for steps in told.values() if steps is not None], default=0) + 5
            for place, pair in list(told)[::4]:
                hand = self.play(floor, place, pair, most)
                if told[place, pair] is None:
                    self.assertIsNone(told[hand.where()])
                    self.assertEqual(hand.steps(), most)
                else:
                    self.assertIsNone(hand.where())
                    self.assertLessEqual(hand.steps(), told[place, pair])

    def test_two_hands_of_one_floor(self):
        for kind in (Keeper, Taker):
            one, other = kind(DOCUMENT, 1, (5, 4)), kind(DOCUMENT, 1, (5, 4))
            third = kind(DOCUMENT, 0, (0, 2))
            step = one.goes if kind is Taker else lambda: one.went(2)
            step()
            self.stands(one, (0, (3, 4)), 1)
            self.stands(other, (1, (5, 4)), 0)
            self.stands(third, (0, (0, 2)), 0)

    def test_the_floor_stays(self):
        before = repr(DOCUMENT)
        self.play(DOCUMENT, 0, (5, 4), 50)
        self.assertEqual(repr(DOCUMENT), before)


if __name__ == "__main__":
    unittest.main()
