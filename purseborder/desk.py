"""The desk: keeps floors by names, and answers rows with texts."""

from purseborder.alone import alone
from purseborder.borders import borders, keeper_deed, taker_way
from purseborder.errors import NoName, NoRow
from purseborder.floors import check_place
from purseborder.floortexts import read_floor, show_floor
from purseborder.grown import compare, mirrored
from purseborder.lasting import lasts
from purseborder.worth import cheapest, least_brims

LETTERS = "abcdefghijklmnopqrstuvwxyz"
FIGURES = "0123456789"
MOST_LETTERS = 8
MOST_FIGURES = 4

FORMS = {
    "floor": ("name", "text"),
    "show": ("floor",),
    "mirror": ("name", "floor"),
    "border": ("floor", "number"),
    "lasts": ("floor", "number", "number", "number"),
    "deed": ("floor", "number", "number", "number"),
    "way": ("floor", "number", "number", "number"),
    "alone": ("floor", "number"),
    "cheapest": ("floor", "number", "number", "number"),
    "brims": ("floor", "number", "number"),
    "compare": ("floor", "floor"),
}


def is_made_of(word, signs, most):
    """Whether the word has one sign at least, so many at most, and none but these."""
    return 1 <= len(word) <= most and all([sign in signs for sign in word])


def is_number(word):
    """Whether it is a number of a row's: in figures, without noughts ahead."""
    return is_made_of(word, FIGURES, MOST_FIGURES) and (word == "0" or word[0] != "0")


def is_of_form(word, form):
    """Whether the word can stand for what the form asks for."""
    if form == "text":
        return True
    if form == "number":
        return is_number(word)
    return is_made_of(word, LETTERS, MOST_LETTERS)


def are_of_forms(words, forms):
    """Whether there is a word for each of the forms."""
    return len(words) == len(forms) and all([is_of_form(word, form) for word, form in zip(words, forms)])


def read_row(row):
    """The words of a row; NoRow where it is none."""
    if not isinstance(row, str):
        raise NoRow(row)
    # The text of a floor has blanks of its own: it is taken as one word.
    words = row.split(" ", 2) if row.startswith("floor ") else row.split(" ")
    if words[0] not in FORMS or not are_of_forms(words[1:], FORMS[words[0]]):
        raise NoRow(row)
    return words


def show_pair(pair):
    """A pair as the desk writes it."""
    return str(pair[0]) + "," + str(pair[1])


def show_border(border):
    """A border as the desk writes it."""
    return " ".join([show_pair(pair) for pair in border]) if border else "none"


def show_count(count):
    """A number, or what stands for None."""
    return "-" if count is None else str(count)


def answer_show(things):
    """The text of a floor."""
    return show_floor(things[0])


def answer_border(things):
    """The border of a place."""
    check_place(things[0], things[1])
    return show_border(borders(things[0])[things[1]])


def answer_lasts(things):
    """How many steps a pair lasts."""
    steps = lasts(things[0], things[1], (things[2], things[3]))
    return "ever" if steps is None else str(steps)


def answer_deed(things):
    """A deed of the keeper's."""
    deed = keeper_deed(things[0], things[1], (things[2], things[3]))
    return "-" if deed is None else str(deed[0]) + " " + str(deed[1])


def answer_way(things):
    """A way of the taker's."""
    return show_count(taker_way(things[0], things[1], (things[2], things[3])))


def answer_alone(things):
    """What is enough with one purse alone."""
    return " ".join([show_count(count) for count in alone(things[0], things[1])])


def answer_cheapest(things):
    """The least cost, and its pair."""
    found = cheapest(things[0], things[1], (things[2], things[3]))
    return "none" if found is None else str(found[0]) + " " + show_pair(found[1])


def answer_brims(things):
    """The border of the brims with which full purses are enough."""
    return show_border(least_brims(things[0], things[1], things[2]))


def answer_compare(things):
    """In which of two floors more is enough."""
    return " ".join(compare(things[0], things[1]))


ANSWERS = {
    "show": answer_show,
    "border": answer_border,
    "lasts": answer_lasts,
    "deed": answer_deed,
    "way": answer_way,
    "alone": answer_alone,
    "cheapest": answer_cheapest,
    "brims": answer_brims,
    "compare": answer_compare,
}


class Desk:
    """Keeps floors by names, and answers rows."""

    def __init__(self):
        self.kept = {}

    def say(self, row):
        """The answer to a row."""
        words = read_row(row)
        things = [self.thing_for(word, form) for word, form in zip(words[1:], FORMS[words[0]])]
        if words[0] == "floor":
            return self.keep(things[0], read_floor(things[1]))
        if words[0] == "mirror":
            return self.keep(things[0], mirrored(things[1]))
        return ANSWERS[words[0]](things)

    def thing_for(self, word, form):
        """What a word of this form stands for: the kept floor, the number, or the word itself."""
        if form == "number":
            return int(word)
        if form != "floor":
            return word
        if word not in self.kept:
            raise NoName(word)
        return self.kept[word]

    def keep(self, name, floor):
        """Keep a floor by a name from now on."""
        self.kept[name] = floor
        return "ok"
