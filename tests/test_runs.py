import unittest

from purseborder.errors import NoChange, NoCount, NoPair, NoPlace, NoWay
from purseborder.floortexts import read_floor
from purseborder.runs import changed, run, stepped
from samples import (
    FLOORS, GREAT, NO_COUNTS, Refusing, beyond, changes, choices, gone, made_floors, no_pairs, pairs_within,
    places_and_pairs,
)

DOCUMENT = FLOORS["document"]
STALLS = FLOORS["stalls"]


class Stepped(Refusing):
    def test_by_the_ways_of_the_document(self):
        self.assertEqual(stepped(DOCUMENT, (2, 2), 0), (3, 1))
        self.assertEqual(stepped(DOCUMENT, (2, 2), 1), (2, 4))
        self.assertEqual(stepped(DOCUMENT, (2, 2), 2), (0, 2))

    def test_at_and_around_both_brims(self):
        self.assertEqual(stepped(DOCUMENT, (4, 1), 0), (5, 0))
        self.assertEqual(stepped(DOCUMENT, (5, 1), 0), (5, 0))
        self.assertEqual(stepped(DOCUMENT, (5, 4), 0), (5, 3))
        self.assertEqual(stepped(DOCUMENT, (0, 1), 1), (0, 3))
        self.assertEqual(stepped(DOCUMENT, (0, 2), 1), (0, 4))
        self.assertEqual(stepped(DOCUMENT, (0, 3), 1), (0, 4))
        self.assertEqual(stepped(DOCUMENT, (0, 4), 1), (0, 4))
        floor = read_floor("brims 12 3; taker; 0>0 12 12")
        self.assertEqual(stepped(floor, (0, 0), 0), (12, 3))
        self.assertEqual(stepped(floor, (12, 3), 0), (12, 3))

    def test_emptying_either_purse_both_or_none(self):
        floor = read_floor("brims 12 12; keeper; 0>0 -12 12; 0>0 -2 -3; 0>0 12 -12")
        self.assertEqual(stepped(floor, (2, 3), 1), (0, 0))
        self.assertIsNone(stepped(floor, (1, 3), 1))
        self.assertIsNone(stepped(floor, (2, 2), 1))
        self.assertIsNone(stepped(floor, (1, 2), 1))
        self.assertIsNone(stepped(floor, (0, 0), 1))
        self.assertIsNone(stepped(floor, (11, 12), 0))
        self.assertEqual(stepped(floor, (12, 12), 0), (0, 12))
        self.assertIsNone(stepped(floor, (12, 11), 2))
        self.assertEqual(stepped(floor, (0, 12), 2), (12, 0))

    def test_where_there_is_no_room(self):
        floor = FLOORS["no room"]
        self.assertEqual([stepped(floor, (0, 0), way) for way in range(3)], [(0, 0)] * 3)
        floor = FLOORS["no room and a loss"]
        self.assertEqual([stepped(floor, (0, 0), way) for way in range(4)], [None, (0, 0), (0, 0), None])

    def test_every_way_and_pair_of_some_floors(self):
        for floor in list(FLOORS.values()) + made_floors(40, 12, 12):
            for way in range(len(floor[2])):
                for pair in pairs_within(floor[0]):
                    told = stepped(floor, pair, way)
                    self.assertEqual(told, gone(floor, pair, way))
                    self.assertIn(type(told), (tuple, type(None)))

    def test_what_is_no_pair(self):
        for floor in (DOCUMENT, FLOORS["no room"]):
            for thing in no_pairs(floor):
                self.refused(NoPair, "pair", thing, stepped, floor, thing, 0)

    def test_what_is_no_way(self):
        for floor in (DOCUMENT, FLOORS["idle"]):
            for thing in beyond(len(floor[2])):
                self.refused(NoWay, "way", thing, stepped, floor, (1, 1), thing)

    def test_no_pair_goes_ahead_of_no_way(self):
        for thing in ((6, 0), [1, 1], None):
            for way in (3, -1, True, None, "0"):
                self.refused(NoPair, "pair", thing, stepped, DOCUMENT, thing, way)

    def test_the_brims_are_not_mixed_up(self):
        self.assertEqual(stepped(DOCUMENT, (5, 4), 1), (5, 4))
        self.refused(NoPair, "pair", (4, 5), stepped, DOCUMENT, (4, 5), 1)


class Changed(Refusing):
    def test_no_change_can_always_be_done(self):
        for floor in FLOORS.values():
            for place, pair in places_and_pairs(floor):
                told = changed(floor, place, pair, 0)
                self.assertEqual(told, pair)
                self.assertIs(type(told), tuple)

    def test_out_of_the_first_purse(self):
        self.assertEqual(changed(STALLS, 0, (9, 0), 1), (8, 2))
        self.assertEqual(changed(STALLS, 0, (9, 0), 3), (6, 6))
        self.assertEqual(changed(STALLS, 0, (9, 0), 4), (5, 7))
        self.assertEqual(changed(STALLS, 0, (9, 0), 9), (0, 7))
        self.assertIsNone(changed(STALLS, 0, (9, 0), 10))
        self.assertEqual(changed(STALLS, 0, (1, 7), 1), (0, 7))
        self.assertIsNone(changed(STALLS, 0, (0, 7), 1))

    def test_out_of_the_second_purse(self):
        self.assertEqual(changed(STALLS, 1, (0, 7), 1), (3, 5))
        self.assertEqual(changed(STALLS, 1, (0, 7), 3), (9, 1))
        self.assertIsNone(changed(STALLS, 1, (0, 7), 4))
        self.assertEqual(changed(STALLS, 1, (7, 7), 1), (9, 5))
        self.assertEqual(changed(STALLS, 1, (9, 2), 1), (9, 0))
        self.assertIsNone(changed(STALLS, 1, (9, 1), 1))

    def test_for_nought_and_for_all(self):
        floor = FLOORS["stall for nought"]
        self.assertEqual(changed(floor, 0, (6, 3), 3), (0, 3))
        self.assertIsNone(changed(floor, 0, (5, 3), 3))
        floor = FLOORS["stall that gives all"]
        self.assertEqual(changed(floor, 0, (0, 12), 1), (12, 0))
        self.assertEqual(changed(floor, 0, (12, 12), 1), (12, 0))
        self.assertIsNone(changed(floor, 0, (12, 11), 1))
        self.assertIsNone(changed(floor, 0, (12, 12), 2))

    def test_without_a_stall_and_at_a_takers_place(self):
        for floor, place in ((STALLS, 2), (DOCUMENT, 1), (FLOORS["idle"], 0), (FLOORS["idle taker"], 0)):
            for times in (1, 2, 3, GREAT):
                self.assertIsNone(changed(floor, place, (3, 3), times))
            self.assertEqual(changed(floor, place, (3, 3), 0), (3, 3))

    def test_great_times(self):
        for times in (13, 100, GREAT, 10 ** 5000):
            for floor in FLOORS.values():
                self.assertIsNone(changed(floor, 0, floor[0], times))

    def test_every_place_and_pair_of_some_floors(self):
        for floor in list(FLOORS.values()) + made_floors(40, 9):
            for place, pair in places_and_pairs(floor):
                expected = changes(floor, place, pair)
                told = [changed(floor, place, pair, times) for times in range(len(expected) + 2)]
                self.assertEqual(told, expected + [None, None])

    def test_what_is_no_place(self):
        for floor in (STALLS, FLOORS["idle"]):
            for thing in beyond(len(floor[1])):
                self.refused(NoPlace, "place", thing, changed, floor, thing, (1, 1), 0)

    def test_what_is_no_pair(self):
        for thing in no_pairs(STALLS):
            self.refused(NoPair, "pair", thing, changed, STALLS, 0, thing, 0)

    def test_what_is_no_count(self):
        for place in range(3):
            for thing in NO_COUNTS:
                self.refused(NoCount, "told", thing, changed, STALLS, place, (1, 1), thing)

    def test_the_order_of_refusals(self):
        for thing in (None, True, -1, "x", [0], GREAT):
            self.refused(NoPlace, "place", thing, changed, STALLS, thing, thing, -1)
            self.refused(NoPlace, "place", thing, changed, STALLS, thing, (1, 1), -1)
            self.refused(NoPair, "pair", thing, changed, STALLS, 0, thing, -1)
            self.refused(NoPair, "pair", thing, changed, STALLS, 2, thing, None)


class Run(Refusing):
    def test_without_deeds(self):
        self.assertEqual(run(DOCUMENT, 0, (0, 0), []), [])
        self.assertIs(type(run(DOCUMENT, 1, (5, 4), [])), list)

    def test_deeds_that_go_on(self):
        deeds = [(0, 0), (1, 1), (0, 2), (2, 0)]
        self.assertEqual(run(DOCUMENT, 0, (3, 3), deeds[:1]), [(0, (4, 2))])
        self.assertEqual(run(DOCUMENT, 0, (3, 3), deeds[:2]), [(0, (4, 2)), (1, (5, 2))])
        self.assertEqual(run(DOCUMENT, 0, (3, 3), deeds[:3]), [(0, (4, 2)), (1, (5, 2)), (0, (3, 2))])
        self.refused(NoChange, "times", 2, run, DOCUMENT, 0, (3, 3), deeds)

    def test_changes_come_ahead_of_the_step(self):
        floor = read_floor("brims 4 4; keeper; 0>0 3 -2; stall 0 a 2 2")
        self.assertEqual(run(floor, 0, (2, 0), [(1, 0)]), [(0, (3, 0))])
        self.assertEqual(run(floor, 0, (2, 0), [(0, 0)]), [None])
        self.assertEqual(run(floor, 0, (4, 3), [(2, 0)]), [(0, (3, 2))])
        self.assertEqual(run(floor, 0, (1, 4), [(0, 0), (0, 0), (1, 0)]), [(0, (4, 2)), (0, (4, 0)), (0, (4, 0))])

    def test_a_deed_that_empties_with_anything_behind_it(self):
        for rest in ([], [(0, 0)], [(0, 99)], [(-1, 2)], [(None, None)], [None], [5, "x", ()], [[]] * 50):
            self.assertEqual(run(DOCUMENT, 1, (1, 4), [(0, 2)] + rest), [None])
            told = run(DOCUMENT, 0, (1, 4), [(0, 0), (0, 1), (0, 2), (0, 1), (0, 2)] + rest)
            self.assertEqual(told, [(0, (2, 3)), (1, (2, 4)), (0, (0, 4)), (1, (0, 4)), None])

    def test_every_deed_of_some_floors(self):
        for floor in list(FLOORS.values())[:3] + made_floors(25, 5):
            for place, pair in places_and_pairs(floor):
                able = choices(floor, place, pair)
                for times in range(len(changes(floor, place, pair)) + 1):
                    for way in range(-1, len(floor[2]) + 1):
                        if (times, way) in able:
                            self.assertEqual(run(floor, place, pair, [(times, way)]), [able[(times, way)]])
                        elif (0, way) in able:
                            self.refused(NoChange, "times", times, run, floor, place, pair, [(times, way)])
                        else:
                            self.refused(NoWay, "way", way, run, floor, place, pair, [(times, way)])

    def test_a_long_run(self):
        floor = read_floor("brims 12 12; keeper; taker; 0>1 1 -1; 1>0 -1 1")
        told = run(floor, 0, (5, 5), [(0, 0), (0, 1)] * 1000)
        self.assertEqual(told, [(1, (6, 4)), (0, (5, 5))] * 1000)

    def test_what_is_no_way_from_the_place(self):
        for thing in beyond(3) + (2,):
            self.refused(NoWay, "way", thing, run, DOCUMENT, 0, (3, 3), [(0, thing)])
        for thing in beyond(3) + (0, 1):
            self.refused(NoWay, "way", thing, run, DOCUMENT, 1, (3, 3), [(0, thing)])
            self.refused(NoWay, "way", thing, run, DOCUMENT, 0, (3, 3), [(0, 1), (0, thing)])

    def test_what_is_no_number_of_changes(self):
        for thing in NO_COUNTS + (2, 3, GREAT, 10 ** 5000):
            self.refused(NoChange, "times", thing, run, DOCUMENT, 0, (3, 3), [(thing, 0)])
            self.refused(NoChange, "times", thing, run, DOCUMENT, 0, (3, 1), [(0, 1), (0, 2), (thing, 0)])
        for thing in NO_COUNTS + (1, 2, GREAT):
            self.refused(NoChange, "times", thing, run, DOCUMENT, 1, (3, 3), [(thing, 2)])
            self.refused(NoChange, "times", thing, run, FLOORS["idle"], 0, (3, 3), [(thing, 0)])

    def test_no_way_goes_ahead_of_no_change(self):
        for times in (-1, None, True, 5, "0"):
            for way in (2, 3, -1, None, True, "0"):
                self.refused(NoWay, "way", way, run, DOCUMENT, 0, (3, 3), [(times, way)])

    def test_the_first_deed_that_cannot_be_done(self):
        self.refused(NoChange, "times", 9, run, DOCUMENT, 0, (3, 3), [(0, 0), (9, 0), (0, 77)])
        self.refused(NoWay, "way", 77, run, DOCUMENT, 0, (3, 3), [(0, 0), (0, 77), (9, 0)])
        self.refused(NoChange, "times", -1, run, DOCUMENT, 0, (3, 3), [(-1, 0), (0, 77)])
        self.refused(NoWay, "way", 0, run, DOCUMENT, 0, (3, 3), [(0, 1), (0, 0), (8, 1)])

    def test_a_change_that_would_do_before_the_last_step_does_not_count(self):
        self.assertEqual(run(DOCUMENT, 0, (0, 2), [(1, 1)]), [(1, (1, 2))])
        self.refused(NoChange, "times", 1, run, DOCUMENT, 0, (0, 2), [(0, 0), (1, 1)])

    def test_place_and_pair_are_refused_ahead_of_all_deeds(self):
        for deeds in ([], [(0, 0)], [(0, 99)], [(-1, 0)], [None]):
            for thing in beyond(2):
                self.refused(NoPlace, "place", thing, run, DOCUMENT, thing, (1, 1), deeds)
                self.refused(NoPlace, "place", thing, run, DOCUMENT, thing, None, deeds)
            for thing in no_pairs(DOCUMENT):
                self.refused(NoPair, "pair", thing, run, DOCUMENT, 0, thing, deeds)

    def test_what_is_handed_in_stays_and_what_is_told_is_new(self):
        deeds = [(0, 0), (1, 1), (0, 2)]
        told = run(DOCUMENT, 0, (3, 3), deeds)
        self.assertEqual(deeds, [(0, 0), (1, 1), (0, 2)])
        deeds.clear()
        expected = [(0, (4, 2)), (1, (5, 2)), (0, (3, 2))]
        self.assertEqual(told, expected)
        told.append("more")
        told[0] = None
        self.assertEqual(run(DOCUMENT, 0, (3, 3), [(0, 0), (1, 1), (0, 2)]), expected)
        thing = [1, 1]
        self.refused(NoPair, "pair", thing, run, DOCUMENT, 0, thing, [])
        self.assertEqual(thing, [1, 1])


if __name__ == "__main__":
    unittest.main()
