import re
import unittest

from purseborder.errors import NoFloor
from purseborder.floors import is_floor
from purseborder.floortexts import read_floor, show_floor

TEXT = "brims 5 4; keeper; taker; 0>0 1 -1; 0>1 0 2; 1>0 -2 0; stall 0 b 2 1"
FLOOR = ((5, 4), ("keeper", "taker"), ((0, 0, 1, -1), (0, 1, 0, 2), (1, 0, -2, 0)), ((0, 1, 2, 1),))

NUMBER = "(0|-?[1-9][0-9]*)"
BRIMS = re.compile(f"brims {NUMBER} {NUMBER}")
WAY = re.compile(f"{NUMBER}>{NUMBER} {NUMBER} {NUMBER}")
STALL = re.compile(f"stall {NUMBER} ([ab]) {NUMBER} {NUMBER}")


def all_from(parts, start, form):
    found = []
    while start + len(found) < len(parts) and form.fullmatch(parts[start + len(found)]):
        found.append(form.fullmatch(parts[start + len(found)]).groups())
    return found


def read_otherwise(text):
    """The floor of a text, or None: read strictly, part by part, in the order of the document."""
    parts = text.split("; ")
    brims = all_from(parts[:1], 0, BRIMS)
    owners = all_from(parts, 1, re.compile("(keeper|taker)"))
    ways = all_from(parts, 1 + len(owners), WAY)
    stalls = all_from(parts, 1 + len(owners) + len(ways), STALL)
    if not brims or 1 + len(owners) + len(ways) + len(stalls) != len(parts):
        return None
    floor = (
        tuple(int(number) for number in brims[0]),
        tuple(row[0] for row in owners),
        tuple(tuple(int(number) for number in row) for row in ways),
        tuple((int(row[0]), "ab".index(row[1]), int(row[2]), int(row[3])) for row in stalls),
    )
    return floor if is_floor(floor) else None


def some_floors():
    yield FLOOR
    yield ((0, 0), ("taker",), ((0, 0, 0, 0),), ())
    yield ((12, 12), ("keeper",), ((0, 0, -12, 12), (0, 0, 12, -12)), ((0, 0, 12, 12),))
    yield ((10, 1), ("keeper",), ((0, 0, -10, 10),), ((0, 1, 1, 0),))
    ways = tuple((k, (3 * k) % 8, k - 12, 12 - k) for k in range(8))
    yield ((7, 11), ("keeper", "taker") * 4, ways, ((0, 0, 1, 0), (2, 1, 10, 9), (4, 0, 3, 3), (6, 1, 12, 11)))
    yield ((1, 2), ("keeper",), tuple((0, 0, k - 12, k % 5) for k in range(24)), ())


class Texts(unittest.TestCase):
    def refused(self, thing):
        with self.assertRaises(NoFloor, msg=repr(thing)):
            read_floor(thing)

    def test_the_text_of_the_document(self):
        self.assertEqual(show_floor(FLOOR), TEXT)
        self.assertEqual(read_floor(TEXT), FLOOR)

    def test_both_purses_of_stalls(self):
        floor = ((3, 3), ("keeper", "keeper"), ((0, 1, 0, 0), (1, 0, 0, 0)), ((0, 0, 1, 0), (1, 1, 12, 11)))
        text = "brims 3 3; keeper; keeper; 0>1 0 0; 1>0 0 0; stall 0 a 1 0; stall 1 b 12 11"
        self.assertEqual(show_floor(floor), text)
        self.assertEqual(read_floor(text), floor)

    def test_the_least_text(self):
        self.assertEqual(show_floor(((0, 12), ("taker",), ((0, 0, -12, 0),), ())), "brims 0 12; taker; 0>0 -12 0")

    def test_there_and_back(self):
        for floor in some_floors():
            self.assertTrue(is_floor(floor))
            text = show_floor(floor)
            self.assertIs(type(text), str)
            told = read_floor(text)
            self.assertEqual(told, floor)
            self.assertTrue(is_floor(told))
            self.assertEqual(show_floor(told), text)
            self.assertEqual(read_otherwise(text), floor)

    def test_what_is_no_text(self):
        things = (None, True, False, 0, 5, 1.5, b"brims 1 1; keeper; 0>0 0 0", [TEXT], (TEXT,), {TEXT: 1}, FLOOR,
                  list(TEXT), object(), str, len, set(), bytearray(b"x"))
        for thing in things:
            self.refused(thing)

    def test_other_texts(self):
        for text in ("", " ", ";", "; ", "; ; ", "brims", "brims ", "brims 1 1", "keeper", "\n", "stall", "stall ", ">",
                     "brims 1 1; keeper", "brims 1 1; 0>0 0 0", "keeper; 0>0 0 0", TEXT + TEXT, TEXT + "; " + TEXT,
                     "x" * 4000, "; " * 2000, "9" * 4000, "brims 1 " + "9" * 3900 + "; keeper; 0>0 0 0"):
            self.refused(text)

    def test_numbers_written_otherwise(self):
        for number in ("00", "-0", "+0", "01", "-01", "+1", "0x1", "1_0", "1.0", "- 1", "--1", "", "a", "b", "None",
                       "\u0661", "\u00b2", "\uff11", "1 ", " 1", "1\n", "\t1", "13", "-13", "100", "1e1"):
            self.refused("brims " + number + " 4; keeper; 0>0 0 0")
            self.refused("brims 4 " + number + "; keeper; 0>0 0 0")
            self.refused("brims 4 4; keeper; 0>0 " + number + " 0")
            self.refused("brims 4 4; keeper; 0>0 0 " + number)
            self.refused("brims 4 4; keeper; " + number + ">0 0 0")
            self.refused("brims 4 4; keeper; 0>" + number + " 0 0")
            self.refused("brims 4 4; keeper; 0>0 0 0; stall " + number + " a 1 1")
            self.refused("brims 4 4; keeper; 0>0 0 0; stall 0 a " + number + " 1")
            self.refused("brims 4 4; keeper; 0>0 0 0; stall 0 a 1 " + number)

    def test_purses_written_otherwise(self):
        for purse in ("0", "1", "2", "c", "A", "B", "", "ab", "-a"):
            self.refused("brims 4 4; keeper; 0>0 0 0; stall 0 " + purse + " 1 1")

    def test_blanks_signs_and_ends_of_lines(self):
        for text in (TEXT + "\n", TEXT + " ", " " + TEXT, "\n" + TEXT, TEXT + ";", TEXT + "; ", "; " + TEXT,
                     TEXT.replace("; ", ";"), TEXT.replace("; ", " ; "), TEXT.replace("; ", ";  "),
                     TEXT.replace("; ", ", "), TEXT.replace("; ", "\n"), TEXT.replace(" ", "  "),
                     TEXT.replace(" ", "\t"), TEXT.replace(">", " "), TEXT.replace(">", " > "),
                     TEXT.replace(">", "<"), TEXT.replace(">", "->"), TEXT.replace(">", ">>"), TEXT.upper(),
                     TEXT.replace("brims", "Brims"), TEXT.replace("brims", "brim"), TEXT.replace("brims ", ""),
                     TEXT.replace("stall ", ""), TEXT.replace("stall", "stalls"), TEXT.replace("keeper", "Keeper"),
                     TEXT.replace("keeper; taker", "keeper taker"), TEXT.replace("0>0", "0 0"),
                     TEXT.replace("0>0 1 -1", "0 0>1 -1"), TEXT.replace("brims 5 4", "brims 5>4")):
            self.assertNotEqual(text, TEXT)
            self.refused(text)

    def test_parts_in_another_order_twice_or_left_out(self):
        parts = TEXT.split("; ")
        for one in range(len(parts)):
            self.refused_unless_read_otherwise("; ".join(parts[:one] + parts[one + 1:]))
            for other in range(len(parts)):
                moved = parts[:one] + parts[one + 1:]
                moved.insert(other, parts[one])
                if moved != parts:
                    self.refused_unless_read_otherwise("; ".join(moved))
                doubled = list(parts)
                doubled.insert(other, parts[one])
                self.refused_unless_read_otherwise("; ".join(doubled))
        for text in ("brims 5 4; 0>0 0 0; keeper", "keeper; brims 5 4; 0>0 0 0",
                     "brims 5 4; keeper; stall 0 a 1 1; 0>0 0 0", "brims 5 4; keeper; 0>0 0 0; 0>0 0 0",
                     "brims 5 4; keeper; 0>0 0 1; 0>0 0 0", "brims 5 4; brims 5 4; keeper; 0>0 0 0",
                     "brims 5 4; keeper; 0>0 0 0; stall 0 a 1 1; stall 0 a 1 1"):
            self.refused(text)

    def test_texts_of_what_is_no_floor(self):
        for floor in (
            ((13, 0), ("keeper",), ((0, 0, 0, 0),), ()),
            ((0, -1), ("keeper",), ((0, 0, 0, 0),), ()),
            ((1, 1), (), (), ()),
            ((1, 1), ("keeper",), (), ()),
            ((1, 1), ("keeper",) * 9, tuple((k, k, 0, 0) for k in range(9)), ()),
            ((1, 1), ("keeper",), ((0, 1, 0, 0),), ()),
            ((1, 1), ("keeper",), ((0, 0, 13, 0),), ()),
            ((1, 1), ("keeper",), ((0, 0, 0, -13),), ()),
            ((1, 1), ("keeper",), ((0, 0, 1, 0), (0, 0, 0, 0)), ()),
            ((1, 1), ("keeper",), ((0, 0, 0, 0), (0, 0, 0, 0)), ()),
            ((1, 1), ("keeper",), tuple((0, 0, k - 12, 0) for k in range(25)), ()),
            ((1, 1), ("keeper", "keeper"), ((0, 0, 0, 0),), ()),
            ((1, 1), ("taker",), ((0, 0, 0, 0),), ((0, 0, 1, 1),)),
            ((1, 1), ("keeper",), ((0, 0, 0, 0),), ((1, 0, 1, 1),)),
            ((1, 1), ("keeper",), ((0, 0, 0, 0),), ((0, 0, 0, 1),)),
            ((1, 1), ("keeper",), ((0, 0, 0, 0),), ((0, 0, 13, 1),)),
            ((1, 1), ("keeper",), ((0, 0, 0, 0),), ((0, 0, 1, 13),)),
            ((1, 1), ("keeper",), ((0, 0, 0, 0),), ((0, 0, 1, 1), (0, 1, 1, 1))),
        ):
            self.assertFalse(is_floor(floor))
            self.refused(show_floor(floor))

    def refused_unless_read_otherwise(self, text):
        expected = read_otherwise(text)
        if expected is None:
            self.refused(text)
        else:
            self.assertEqual(read_floor(text), expected, text)

    def test_a_sign_more_less_or_other(self):
        signs = "01239-+> ;abkt\nS.,\t\u0661\u00b2"
        for text in (TEXT, "brims 12 10; taker; 0>0 -10 12"):
            for at in range(len(text) + 1):
                self.refused_unless_read_otherwise(text[:at] + text[at + 1:])
                self.refused_unless_read_otherwise(text[:at])
                self.refused_unless_read_otherwise(text[at:])
                for sign in signs:
                    self.refused_unless_read_otherwise(text[:at] + sign + text[at:])
                    self.refused_unless_read_otherwise(text[:at] + sign + text[at + 1:])


if __name__ == "__main__":
    unittest.main()
