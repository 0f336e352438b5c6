"""Point 26: the desk, each of its rows, and what is none."""

import itertools
import unittest

from purseborder.alone import alone
from purseborder.borders import borders
from purseborder.desk import Desk
from purseborder.errors import NoCount, NoFloor, NoName, NoPair, NoPlace, NoRow
from purseborder.floortexts import show_floor
from purseborder.grown import compare, mirrored
from purseborder.lasting import lasts
from purseborder.worth import cheapest, least_brims
from samples import FLOORS, NO_NUMBERS, TEXTS, Refusing, choices, held_for_ever, lasting, made_floors, pairs_within

DOCUMENT = TEXTS["document"]
TURNED = "brims 4 5; keeper; taker; 0>0 -1 1; 0>1 2 0; 1>0 0 -2; stall 0 a 2 1"
ROWS = (
    "floor c " + DOCUMENT, "show a", "mirror c a", "border a 0", "lasts a 0 1 1", "deed a 0 1 1", "way a 1 0 0",
    "alone a 0", "cheapest a 0 1 1", "brims a 0 3", "compare a b",
)


def desk_with(*texts):
    """A desk that keeps these by the names a, b, c .."""
    desk = Desk()
    for name, text in zip("abcdefgh", texts):
        desk.say("floor " + name + " " + text)
    return desk


def shown(border):
    return " ".join(f"{x},{y}" for x, y in border) if border else "none"


class Asking(Refusing):
    def answers(self, desk, row, answer):
        told = desk.say(row)
        self.assertIs(type(told), str)
        self.assertEqual(told, answer, row)

    def no_row(self, desk, row):
        self.refused(NoRow, "row", row, desk.say, row)

    def refused_at(self, desk, row, error, field, thing):
        with self.assertRaises(error) as taken:
            desk.say(row)
        self.assertIs(type(taken.exception), error)
        self.assertEqual(vars(taken.exception), {field: thing})
        self.assertIs(type(getattr(taken.exception, field)), type(thing))


class Answers(Asking):
    def test_the_documents_floor(self):
        desk = Desk()
        for row, answer in (
            ("floor a " + DOCUMENT, "ok"),
            ("show a", DOCUMENT),
            ("mirror b a", "ok"),
            ("show b", TURNED),
            ("show a", DOCUMENT),
            ("border a 0", "0,2 1,1 2,0"),
            ("border a 1", "2,2 3,1 4,0"),
            ("border b 1", "0,4 1,3 2,2"),
            ("lasts a 1 2 1", "4"),
            ("lasts a 1 2 2", "ever"),
            ("lasts b 1 2 2", "ever"),
            ("lasts a 1 0 0", "1"),
            ("deed a 0 0 2", "0 0"),
            ("deed a 0 2 0", "0 1"),
            ("deed a 0 0 0", "-"),
            ("deed a 1 5 4", "-"),
            ("way a 1 2 1", "2"),
            ("way a 1 2 2", "-"),
            ("way a 0 0 0", "-"),
            ("alone a 0", "0 2"),
            ("alone a 1", "0 0"),
            ("alone b 0", "0 0"),
            ("alone b 1", "0 2"),
            ("cheapest a 0 1 1", "2 0,2"),
            ("cheapest a 0 0 0", "0 0,2"),
            ("cheapest a 1 3 4", "12 4,0"),
            ("cheapest a 1 9999 9998", "39994 2,2"),
            ("compare a a", "alike alike"),
            ("compare a b", "alike neither"),
            ("floor c brims 3 3; keeper; taker; 0>1 0 0; 1>0 0 0", "ok"),
            ("compare c a", "first first"),
            ("compare a c", "second second"),
        ):
            self.answers(desk, row, answer)

    def test_where_none_is_told(self):
        desk = desk_with(TEXTS["drain"], TEXTS["one way out"])
        for row, answer in (
            ("border a 0", "none"), ("lasts a 0 12 12", "13"), ("lasts a 0 0 12", "1"), ("way a 0 12 12", "0"),
            ("deed a 0 12 12", "-"), ("alone a 0", "-"), ("alone a 1", "0"), ("cheapest a 0 1 1", "none"),
            ("brims a 0 3", "none"), ("compare a a", "alike"), ("alone b 0", "0 0 -"), ("alone b 1", "0 0 1"),
        ):
            self.answers(desk, row, answer)

    def test_the_brims(self):
        desk = desk_with("brims 7 8; keeper; taker; 0>1 -3 0; 0>1 -1 -1; 0>1 0 -2; 1>1 0 0")
        for row, answer in (
            ("brims a 0 3", "0,2 1,1 3,0"), ("brims a 0 2", "0,2 1,1"), ("brims a 0 1", "1,1"),
            ("brims a 0 0", "none"), ("brims a 1 0", "0,0"), ("brims a 1 3", "0,0"),
        ):
            self.answers(desk, row, answer)

    def test_a_deed_with_changes(self):
        desk = desk_with(TEXTS["stall a"], TEXTS["stall that gives all"])
        floor = FLOORS["stall a"]
        enough = held_for_ever(floor)[0]
        seen = set()
        for x, y in pairs_within(floor[0]):
            told = desk.say(f"deed a 0 {x} {y}")
            if (x, y) in enough:
                times, way = told.split(" ")
                behind = choices(floor, 0, (x, y))[int(times), int(way)]
                self.assertIn(behind[1], enough)
                self.assertEqual(told, f"{int(times)} {int(way)}")
                seen.add(told)
            else:
                self.assertEqual(told, "-")
        self.answers(desk, "deed b 0 12 12", "-")
        self.assertTrue(seen)
        # Only behind a change the second purse has the coins that the one way takes.
        desk = desk_with("brims 5 5; keeper; keeper; 0>1 0 -3; 1>1 0 0; stall 0 a 1 1")
        self.answers(desk, "deed a 0 3 0", "3 0")
        self.answers(desk, "deed a 0 5 1", "2 0")
        self.answers(desk, "border a 0", "0,3 1,2 2,1 3,0")

    def test_as_the_stages_tell(self):
        for floor in list(FLOORS.values()) + made_floors(20):
            desk = desk_with(show_floor(floor), show_floor(mirrored(floor)))
            self.answers(desk, "show a", show_floor(floor))
            for purse in (0, 1):
                told = alone(floor, purse)
                self.answers(desk, f"alone a {purse}", " ".join("-" if n is None else str(n) for n in told))
            for place, border in enumerate(borders(floor)):
                self.answers(desk, f"border a {place}", shown(border))
                for most in (0, 1, 2, 3):
                    self.answers(desk, f"brims a {place} {most}", shown(least_brims(floor, place, most)))
                for p, q in ((0, 0), (1, 0), (0, 1), (2, 3), (9999, 9999), (1000, 10)):
                    told = cheapest(floor, place, (p, q))
                    text = "none" if told is None else f"{told[0]} {told[1][0]},{told[1][1]}"
                    self.answers(desk, f"cheapest a {place} {p} {q}", text)
                for x, y in pairs_within(floor[0])[::11]:
                    steps = lasts(floor, place, (x, y))
                    self.answers(desk, f"lasts a {place} {x} {y}", "ever" if steps is None else str(steps))
            self.answers(desk, "compare a b", " ".join(compare(floor, mirrored(floor))))

    def test_ways_of_the_takers(self):
        for floor in list(FLOORS.values()) + made_floors(20):
            desk = desk_with(show_floor(floor))
            told = lasting(floor)
            for place, (x, y) in list(told)[::5]:
                way = desk.say(f"way a {place} {x} {y}")
                if floor[1][place] == "keeper" or told[place, (x, y)] is None:
                    self.assertEqual(way, "-")
                else:
                    behind = choices(floor, place, (x, y))[0, int(way)]
                    self.assertTrue(behind is None or told[behind] < told[place, (x, y)])
                    self.assertEqual(way, str(int(way)))


class Kept(Asking):
    def test_over_a_name_that_is_kept(self):
        desk = desk_with(DOCUMENT, TEXTS["idle"])
        self.answers(desk, "floor a " + TEXTS["drain"], "ok")
        self.answers(desk, "show a", TEXTS["drain"])
        self.answers(desk, "show b", TEXTS["idle"])
        self.answers(desk, "floor a " + DOCUMENT, "ok")
        self.answers(desk, "mirror b a", "ok")
        self.answers(desk, "show b", TURNED)
        self.answers(desk, "show a", DOCUMENT)
        self.answers(desk, "mirror a a", "ok")
        self.answers(desk, "show a", TURNED)
        self.answers(desk, "mirror a b", "ok")
        self.answers(desk, "show a", DOCUMENT)
        self.answers(desk, "show b", TURNED)

    def test_what_is_mirrored_stays_when_the_other_one_goes(self):
        desk = desk_with(DOCUMENT)
        desk.say("mirror b a")
        desk.say("floor a " + TEXTS["idle"])
        self.answers(desk, "show b", TURNED)
        self.answers(desk, "border b 1", "0,4 1,3 2,2")

    def test_names(self):
        desk = Desk()
        names = ["a", "z", "az", "abcdefgh", "zzzzzzzz", "floor", "show", "mirror", "border", "lasts", "deed", "way",
                 "alone", "cheapest", "brims", "compare", "ever", "none", "ok", "kept", "x" * 7]
        for number, name in enumerate(names):
            self.answers(desk, f"floor {name} brims {number % 13} 0; keeper; 0>0 0 0", "ok")
        for number, name in enumerate(names):
            self.answers(desk, f"show {name}", f"brims {number % 13} 0; keeper; 0>0 0 0")
            self.answers(desk, f"compare {name} {name}", "alike")
            self.answers(desk, f"mirror {name} {name}", "ok")
            self.answers(desk, f"show {name}", f"brims 0 {number % 13}; keeper; 0>0 0 0")

    def test_a_text_that_is_none(self):
        desk = desk_with(DOCUMENT)
        for text in ("", " ", " " + DOCUMENT, DOCUMENT + " ", DOCUMENT + "\n", DOCUMENT + ";", "a", "brims", "x y z",
                     DOCUMENT.replace("5", "05", 1), DOCUMENT.replace("keeper", "Keeper"), "brims 5 4; keeper",
                     DOCUMENT.replace("; ", ";"), DOCUMENT.replace("; ", "\n"), "brims 13 0; keeper; 0>0 0 0"):
            for name in ("a", "b"):
                self.refused_without_field(NoFloor, desk.say, "floor " + name + " " + text)
            self.answers(desk, "show a", DOCUMENT)
            self.refused_at(desk, "show b", NoName, "name", "b")

    def test_two_desks(self):
        one, other = Desk(), Desk()
        one.say("floor a " + DOCUMENT)
        self.refused_at(other, "show a", NoName, "name", "a")
        other.say("floor a " + TEXTS["idle"])
        self.answers(one, "show a", DOCUMENT)
        self.answers(other, "show a", TEXTS["idle"])


class NoRows(Asking):
    def setUp(self):
        self.desk = desk_with(DOCUMENT, TURNED)
        for row in ROWS:
            self.assertIs(type(self.desk.say(row)), str)
        self.desk.say("floor c " + DOCUMENT)

    def tearDown(self):
        self.answers(self.desk, "show a", DOCUMENT)
        self.answers(self.desk, "show b", TURNED)
        self.answers(self.desk, "show c", DOCUMENT)

    def test_things_of_any_kind(self):
        for thing in NO_NUMBERS + (0, 1, b"show a", ["show a"], ["show", "a"], ("show", "a"), {"show": "a"}):
            if not isinstance(thing, str):
                self.no_row(self.desk, thing)

    def test_blanks_and_ends_of_lines(self):
        for row in ROWS[1:]:
            self.no_row(self.desk, row + " ")
            self.no_row(self.desk, row.replace(" ", ""))
            for end in ("\n", "\r", "\t", "\r\n", "\x00", "\x1c", "\x85", "\u2028", "\xa0", "\u3000"):
                self.no_row(self.desk, row + end)
                self.no_row(self.desk, end + row)
                self.no_row(self.desk, row + " " + end)
                self.no_row(self.desk, row.replace(" ", end))
        for row in ROWS:
            self.no_row(self.desk, " " + row)
            spots = [spot for spot, sign in enumerate(row) if sign == " "]
            for spot in spots[:2] if row.startswith("floor") else spots:
                if not row[:spot].startswith("floor "):
                    self.no_row(self.desk, row[:spot] + " " + row[spot:])
                    self.no_row(self.desk, row[:spot] + "\n" + row[spot + 1:])
                    self.no_row(self.desk, row[:spot] + "\t" + row[spot + 1:])

    def test_words_too_few_or_too_many(self):
        for row in ROWS[1:]:
            words = row.split(" ")
            for many in range(len(words)):
                self.no_row(self.desk, " ".join(words[:many]))
            for word in ("a", "b", "0", "1", "show", ";", "-"):
                self.no_row(self.desk, row + " " + word)
                self.no_row(self.desk, word + " " + row)

    def test_floor_without_a_blank_behind_the_name(self):
        for row in ("floor", "floor ", "floor a", "floora", "floor a;", "floor  ", "floor  a", "floor  a " + DOCUMENT,
                    "floor\na " + DOCUMENT, "floor a\n" + DOCUMENT, "floor A " + DOCUMENT, "floor a1 " + DOCUMENT,
                    "floor abcdefghi " + DOCUMENT, "floor " + DOCUMENT.replace(" ", ""), "Floor a " + DOCUMENT,
                    "floor 1 " + DOCUMENT, "floor a\n " + DOCUMENT, "floor \xe4 " + DOCUMENT, "floora a " + DOCUMENT):
            self.no_row(self.desk, row)
        self.refused_without_field(NoFloor, self.desk.say, "floor a ")

    def test_words_that_are_none(self):
        for row in ("", " ", "a", "ok", "help", "floors", "shows a", "sho a", "Show a", "SHOW a", "show: a", "enough a 0",
                    "table a", "rounds a", "NAME", "borders a 0", "with a 0", "\nshow a", "show\ta", "brim a 0 0"):
            self.no_row(self.desk, row)
        for row in ROWS:
            words = row.split(" ")
            for word in (words[0].upper(), words[0].capitalize(), words[0][:-1], words[0] + "s", "", "0"):
                self.no_row(self.desk, " ".join([word] + words[1:]))

    def with_each_word(self, own, other):
        """The rows, each with one of the words that is like this one put otherwise."""
        for row in ROWS[1:]:
            words = row.split(" ")
            for spot in range(1, len(words)):
                if words[spot].isalpha() == own.isalpha():
                    yield " ".join(words[:spot] + [other] + words[spot + 1:])

    def test_signs_that_no_word_has(self):
        for sign in [chr(code) for code in range(0x180) if chr(code) != " "]:
            if not "a" <= sign <= "z":
                for row in list(self.with_each_word("a", sign)) + list(self.with_each_word("a", "a" + sign)):
                    self.no_row(self.desk, row)
            if not "0" <= sign <= "9":
                for row in list(self.with_each_word("0", sign)) + list(self.with_each_word("0", "1" + sign)):
                    self.no_row(self.desk, row)

    def test_names_that_are_none(self):
        for name in ("", "abcdefghi", "A", "aB", "a1", "1", "0", "a-b", "a.", "a,b", "\xe4", "\xdf", "\u0430", "\uff41",
                     "\xaa", "a\u0301", "\u0131", "a\n", "\na", "-", "_", "'a'", "aa\t", "`", "{", "@", "["):
            for row in self.with_each_word("a", name):
                self.no_row(self.desk, row)

    def test_numbers_that_are_none(self):
        for number in ("", "00", "01", "0001", "10000", "12345", "99999", "00000", "-1", "-0", "+1", "1.0", "1e1", "1_0",
                       "0x1", "a", "x", "\u0661", "\uff11", "\xb2", "\u2460", "\xbd", "\u0967", "1\n", "\n1", "1\t",
                       "True", "None", "\u4e00", ",", "/", ":", "1,1"):
            for row in self.with_each_word("0", number):
                self.no_row(self.desk, row)

    def test_numbers_of_four_figures_are_numbers(self):
        for number in (10, 99, 100, 999, 1000, 9999):
            self.refused_at(self.desk, f"border a {number}", NoPlace, "place", number)
            self.refused_at(self.desk, f"alone a {number}", NoCount, "told", number)
            self.answers(self.desk, f"cheapest a 1 {number} {number}", f"{4 * number} 2,2")


class InOrder(Asking):
    def test_no_row_ahead_of_no_name(self):
        desk = desk_with(DOCUMENT)
        for row in ("border b 00", "border b", "lasts b 0 1 1 ", "show b ", "compare b B", "compare b", "mirror a b c",
                    "mirror A b", "deed b 0 1 10000", "way b 9 9 -9", "alone b a", "cheapest b 0 1", "brims b 9 04"):
            self.no_row(desk, row)

    def test_no_name_ahead_of_what_the_stages_refuse(self):
        desk = desk_with(DOCUMENT)
        for row in ("show b", "mirror a b", "mirror b b", "border b 9", "lasts b 9 99 99", "deed b 9 99 99",
                    "way b 9 99 99", "alone b 9", "cheapest b 9 0 0", "brims b 9 9", "compare a b", "compare b a"):
            self.refused_at(desk, row, NoName, "name", "b")
        self.answers(desk, "show a", DOCUMENT)
        self.refused_at(desk, "show b", NoName, "name", "b")

    def test_the_first_name_from_the_left(self):
        desk = desk_with(DOCUMENT)
        self.refused_at(desk, "compare x y", NoName, "name", "x")
        self.refused_at(desk, "compare y x", NoName, "name", "y")
        self.refused_at(desk, "compare a x", NoName, "name", "x")
        self.refused_at(desk, "compare x a", NoName, "name", "x")
        # By the name to keep by, none need be kept.
        self.refused_at(desk, "mirror x y", NoName, "name", "y")
        self.refused_at(desk, "show x", NoName, "name", "x")

    def test_as_the_stages_refuse(self):
        desk = desk_with(DOCUMENT, TEXTS["idle"])
        self.refused_at(desk, "border a 2", NoPlace, "place", 2)
        self.refused_at(desk, "border b 1", NoPlace, "place", 1)
        for word in ("lasts", "deed", "way"):
            self.refused_at(desk, word + " a 2 6 5", NoPlace, "place", 2)
            self.refused_at(desk, word + " a 2 0 0", NoPlace, "place", 2)
            self.refused_at(desk, word + " a 9999 0 0", NoPlace, "place", 9999)
            for place in (0, 1):
                self.refused_at(desk, f"{word} a {place} 6 4", NoPair, "pair", (6, 4))
                self.refused_at(desk, f"{word} a {place} 5 5", NoPair, "pair", (5, 5))
                self.refused_at(desk, f"{word} a {place} 9999 0", NoPair, "pair", (9999, 0))
                self.assertIs(type(desk.say(f"{word} a {place} 5 4")), str)
        self.refused_at(desk, "alone a 2", NoCount, "told", 2)
        self.refused_at(desk, "cheapest a 2 0 0", NoPlace, "place", 2)
        self.refused_at(desk, "brims a 2 4", NoPlace, "place", 2)
        self.refused_at(desk, "brims a 2 0", NoPlace, "place", 2)
        self.refused_at(desk, "brims a 1 4", NoCount, "told", 4)
        self.refused_without_field(NoFloor, desk.say, "compare a b")
        self.refused_without_field(NoFloor, desk.say, "compare b a")

    def test_what_is_refused_changes_nothing(self):
        desk = desk_with(DOCUMENT, TEXTS["idle"])
        rows = ("floor a", "floor a x", "floor c x", "mirror a x", "mirror c x", "mirror a b ", "border a 9", "compare a b",
                "floor A " + DOCUMENT, "floor a  " + TURNED, "floor b " + TURNED + " ", "brims b 0 7", "show c", None, 7)
        for one, other in itertools.product(rows, repeat=2):
            for row in (one, other):
                with self.assertRaises(ValueError):
                    desk.say(row)
        self.answers(desk, "show a", DOCUMENT)
        self.answers(desk, "show b", TEXTS["idle"])
        self.refused_at(desk, "show c", NoName, "name", "c")


if __name__ == "__main__":
    unittest.main()
