"""Hands that play for the keeper and for the taker."""

from purseborder.borders import deed_into, way_out_of
from purseborder.errors import NoMore
from purseborder.floors import KEEPER, TAKER, check_pair, check_place, ways_from
from purseborder.lasting import rounds
from purseborder.runs import behind_deed


class Hand:
    """What both hands have: it stands at a place with a pair until a purse is emptied."""

    def __init__(self, floor, place, pair):
        check_place(floor, place)
        check_pair(floor, pair)
        self.floor = floor
        # A play may go on for long, and the rounds stay the same: they are reckoned once.
        self.told = rounds(floor)
        self.stand = (place, pair)
        self.done = 0

    def where(self):
        """The (place, pair) at which it stands, None where a purse is emptied."""
        return self.stand

    def steps(self):
        """How many steps were done, one that emptied a purse too."""
        return self.done

    def check_turn(self, owner):
        """Refuse what is asked or told where the play is at its end, or the place isn't this owner's."""
        if self.stand is None or self.floor[1][self.stand[0]] != owner:
            raise NoMore()

    def first_way(self):
        """The first of the ways that lead from where it stands."""
        return ways_from(self.floor, self.stand[0])[0]

    def step_on(self, times, way):
        """Do a step; what is refused changes nothing."""
        self.stand = behind_deed(self.floor, self.stand[0], self.stand[1], (times, way))
        self.done = self.done + 1


class Keeper(Hand):
    """A hand that plays for the keeper."""

    def does(self):
        """Do a deed, one that leads to an enough pair where there is one, and tell it."""
        self.check_turn(KEEPER)
        deed = deed_into(self.floor, self.stand[0], self.stand[1], self.told[-1])
        if deed is None:
            deed = (0, self.first_way())
        self.step_on(deed[0], deed[1])
        return deed

    def went(self, way):
        """Be told the taker's way."""
        self.check_turn(TAKER)
        self.step_on(0, way)


class Taker(Hand):
    """A hand that plays for the taker."""

    def goes(self):
        """Go a way, one by which the pair lasts fewer steps where it isn't enough, and tell it."""
        self.check_turn(TAKER)
        way = way_out_of(self.floor, self.stand[0], self.stand[1], self.told)
        if way is None:
            way = self.first_way()
        self.step_on(0, way)
        return way

    def did(self, times, way):
        """Be told the keeper's deed."""
        self.check_turn(KEEPER)
        self.step_on(times, way)
