"""Floors written as texts, and read."""

from purseborder.errors import NoFloor
from purseborder.floors import KEEPER, MOST_COINS, TAKER, is_floor

PURSES = ("a", "b")


def show_way(way):
    """A way as a part of the text."""
    return str(way[0]) + ">" + str(way[1]) + " " + str(way[2]) + " " + str(way[3])


def show_stall(stall):
    """A stall as a part of the text."""
    return "stall " + str(stall[0]) + " " + PURSES[stall[1]] + " " + str(stall[2]) + " " + str(stall[3])


def show_floor(floor):
    """The text of a floor."""
    parts = ["brims " + str(floor[0][0]) + " " + str(floor[0][1])]
    parts.extend(floor[1])
    parts.extend([show_way(way) for way in floor[2]])
    parts.extend([show_stall(stall) for stall in floor[3]])
    return "; ".join(parts)


def read_word(word):
    """The number that a word stands for, or None where it stands for none that a floor can hold."""
    if word in PURSES:
        return PURSES.index(word)
    # The written numbers are few: to look the word up among them lets no other way of writing one pass.
    for number in range(-MOST_COINS, MOST_COINS + 1):
        if word == str(number):
            return number
    return None


def read_words(words):
    """The numbers that words stand for, as a tuple."""
    return tuple([read_word(word) for word in words])


def read_parts(parts):
    """What the parts of a text tell, in the form of a floor; whether it is one is not asked here."""
    owners = []
    ways = []
    stalls = []
    for part in parts[1:]:
        if part in (KEEPER, TAKER):
            owners.append(part)
        elif part.startswith("stall "):
            stalls.append(read_words(part.split(" ")[1:]))
        else:
            ways.append(read_words(part.replace(">", " ").split(" ")))
    brims = read_words(parts[0].split(" ")[1:])
    return (brims, tuple(owners), tuple(ways), tuple(stalls))


def read_floor(text):
    """The floor that is written so, or NoFloor."""
    if not isinstance(text, str):
        raise NoFloor()
    floor = read_parts(text.split("; "))
    # The parts are read loosely: the floor's own text tells whether all was written as it is to be.
    if not is_floor(floor) or show_floor(floor) != text:
        raise NoFloor()
    return floor
