"""Point 3: the whole promise, gone through on floors from their texts alone, by the desk's answers."""

import unittest

from purseborder.desk import Desk
from purseborder.floortexts import read_floor, show_floor
from purseborder.hands import Keeper, Taker
from samples import TEXTS, Numbers, made_floors

CHOSEN = ("document", "no room", "no room in one", "give and take", "stall for nought", "stalls", "steep", "long",
          "wide borders", "one way out", "drain of both", "great ways")


def texts():
    return [TEXTS[name] for name in CHOSEN] + [show_floor(floor) for floor in made_floors(25, 5)]


class Told:
    """A floor as its text tells it, without the program's help, and the desk's answers about it."""

    def __init__(self, text):
        parts = text.split("; ")
        self.text = text
        self.brims = tuple(int(word) for word in parts[0].split(" ")[1:])
        self.owners = [part for part in parts if part in ("keeper", "taker")]
        self.ways = [part.replace(">", " ").split(" ") for part in parts if ">" in part]
        self.ways = [tuple(int(word) for word in words) for words in self.ways]
        self.stalls = {int(part.split(" ")[1]): part.split(" ")[2:] for part in parts if part.startswith("stall")}
        self.desk = Desk()
        self.desk.say("floor a " + text)
        self.stands = [(place, (x, y)) for place in range(len(self.owners))
                       for x in range(self.brims[0] + 1) for y in range(self.brims[1] + 1)]
        self.lasting = {stand: self.asked("lasts", stand) for stand in self.stands}

    def asked(self, word, stand):
        place, (x, y) = stand
        return self.desk.say(f"{word} a {place} {x} {y}")

    def border(self, place):
        told = self.desk.say(f"border a {place}")
        return [] if told == "none" else [tuple(int(n) for n in pair.split(",")) for pair in told.split(" ")]

    def changed(self, stand):
        """The pairs behind 0, 1, 2 .. changes."""
        place, pair = stand
        told = [pair]
        if place in self.stalls:
            purse, give, get = self.stalls[place]
            give, get = int(give), int(get)
            while told[-1]["ab".index(purse)] >= give:
                x, y = told[-1]
                x, y = (x - give, y + get) if purse == "a" else (x + get, y - give)
                told.append((min(x, self.brims[0]), min(y, self.brims[1])))
        return told

    def behind(self, stand, deed):
        """Where a deed leads, None where it empties a purse."""
        x, y = self.changed(stand)[deed[0]]
        start, to, a, b = self.ways[deed[1]]
        if start != stand[0]:
            raise IndexError("no way from there")
        if min(x + a, y + b) < 0:
            return None
        return (to, (min(x + a, self.brims[0]), min(y + b, self.brims[1])))

    def deeds(self, stand):
        ways = [number for number, way in enumerate(self.ways) if way[0] == stand[0]]
        return [(times, way) for times in range(len(self.changed(stand))) for way in ways]

    def is_enough(self, stand):
        return stand is not None and self.lasting[stand] == "ever"

    def steps_left(self, stand):
        """How many steps are left, 0 where a purse is emptied."""
        if stand is None:
            return 0
        return float("inf") if self.lasting[stand] == "ever" else int(self.lasting[stand])

    def with_parts(self, owners=None, brims=None, ways=None, stalls=None):
        parts = ["brims {} {}".format(*(brims or self.brims))]
        parts += owners or self.owners
        parts += ["{}>{} {} {}".format(*way) for way in sorted(ways or self.ways)]
        stalls = self.stalls if stalls is None else stalls
        parts += ["stall {} {} {} {}".format(place, *stalls[place]) for place in sorted(stalls)]
        return "; ".join(parts)


class Whole(unittest.TestCase):
    @classmethod
    def setUpClass(cls):
        cls.floors = [Told(text) for text in texts()]

    def test_just_one_of_two(self):
        seen = set()
        for told in self.floors:
            for place, pair in told.stands:
                held = any(pair[0] >= x and pair[1] >= y for x, y in told.border(place))
                answer = told.lasting[place, pair]
                self.assertEqual(held, answer == "ever")
                if not held:
                    self.assertGreaterEqual(int(answer), 1)
                    self.assertEqual(answer, str(int(answer)))
                seen.add(held)
        self.assertEqual(seen, {True, False})

    def test_a_step_from_an_enough_pair_leads_to_one(self):
        for told in self.floors:
            for stand in told.stands:
                if not told.is_enough(stand):
                    continue
                if told.owners[stand[0]] == "keeper":
                    times, way = told.asked("deed", stand).split(" ")
                    self.assertTrue(told.is_enough(told.behind(stand, (int(times), int(way)))))
                else:
                    self.assertEqual(told.asked("deed", stand), "-")
                    for deed in told.deeds(stand):
                        self.assertTrue(told.is_enough(told.behind(stand, deed)))
                self.assertEqual(told.asked("way", stand), "-")

    def test_each_step_by_the_way_leaves_a_lesser_number(self):
        for told in self.floors:
            for stand in told.stands:
                if told.is_enough(stand):
                    continue
                left = {deed: told.steps_left(told.behind(stand, deed)) for deed in told.deeds(stand)}
                steps = told.steps_left(stand)
                self.assertEqual(told.asked("deed", stand), "-")
                if told.owners[stand[0]] == "taker":
                    self.assertLess(left[0, int(told.asked("way", stand))], steps)
                    # It can't be done within fewer: no way leaves less than one step fewer.
                    self.assertEqual(min(left.values()), steps - 1)
                else:
                    self.assertEqual(told.asked("way", stand), "-")
                    # Whatever the keeper does leaves fewer, and some deed just one fewer.
                    self.assertEqual(max(left.values()), steps - 1)

    def test_borders(self):
        for told in self.floors:
            for place in range(len(told.owners)):
                border = told.border(place)
                self.assertEqual(border, sorted(border))
                for x, y in border:
                    self.assertFalse([other for other in border if other != (x, y) and x >= other[0] and y >= other[1]])
                    self.assertTrue(told.is_enough((place, (x, y))))
                    self.assertFalse(x > 0 and told.is_enough((place, (x - 1, y))))
                    self.assertFalse(y > 0 and told.is_enough((place, (x, y - 1))))

    def never_harms(self, told, text):
        """The floor of the text has what the keeper gets more, or what the taker has less."""
        told.desk.say("floor more " + text)
        words = told.desk.say("compare more a").split(" ")
        self.assertLessEqual(set(words), {"alike", "first"}, (told.text, text))
        for place in range(len(told.owners)):
            for x, y in told.border(place):
                self.assertEqual(told.desk.say(f"lasts more {place} {x} {y}"), "ever")
        return words

    def test_what_the_keeper_gets_more_never_harms(self):
        seen = set()
        for told in self.floors:
            for place, owner in enumerate(told.owners):
                ways = [way for way in told.ways if way[0] == place]
                way = (place, len(told.owners) - 1, 1, -1)
                if owner == "keeper" and way not in told.ways:
                    seen.update(self.never_harms(told, told.with_parts(ways=told.ways + [way])))
                if owner == "keeper" and place not in told.stalls:
                    stalls = dict(told.stalls)
                    stalls[place] = ("b", 1, 1)
                    seen.update(self.never_harms(told, told.with_parts(stalls=stalls)))
                if owner == "taker":
                    owners = told.owners[:place] + ["keeper"] + told.owners[place + 1:]
                    seen.update(self.never_harms(told, told.with_parts(owners=owners)))
                if owner == "taker" and len(ways) > 1:
                    fewer = [way for way in told.ways if way != ways[0]]
                    seen.update(self.never_harms(told, told.with_parts(ways=fewer)))
            brims = tuple(min(12, brim + 2) for brim in told.brims)
            seen.update(self.never_harms(told, told.with_parts(brims=brims)))
            for start, to, a, b in told.ways:
                ways = [way for way in told.ways if way != (start, to, a, b)]
                more = (start, to, min(12, a + 1), b)
                if more not in ways:
                    seen.update(self.never_harms(told, told.with_parts(ways=ways + [more])))
        self.assertEqual(seen, {"alike", "first"})

    def test_a_hand_for_the_keeper_never_loses(self):
        numbers = Numbers(3)
        for told in self.floors:
            for stand in [stand for stand in told.stands if told.is_enough(stand)][::6]:
                hand = Keeper(read_floor(told.text), *stand)
                for step in range(40):
                    if told.owners[hand.where()[0]] == "keeper":
                        hand.does()
                    else:
                        deeds = told.deeds(hand.where())
                        hand.went(deeds[numbers.below(len(deeds))][1])
                    self.assertIsNotNone(hand.where())

    def test_a_hand_for_the_taker_wins_within_the_told_number(self):
        numbers = Numbers(4)
        for told in self.floors:
            for stand in [stand for stand in told.stands if not told.is_enough(stand)][::6]:
                hand = Taker(read_floor(told.text), *stand)
                while hand.where() is not None:
                    if told.owners[hand.where()[0]] == "taker":
                        hand.goes()
                    else:
                        deeds = told.deeds(hand.where())
                        hand.did(*deeds[numbers.below(len(deeds))])
                    self.assertLessEqual(hand.steps(), int(told.lasting[stand]))


if __name__ == "__main__":
    unittest.main()
