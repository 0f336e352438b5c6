"""The refusals: each is a PurseError, and none stands under another one of them."""


class PurseError(ValueError):
    """Any refusal."""


class NoFloor(PurseError):
    """What was told is no floor, or no text of one."""


class NoMore(PurseError):
    """Nothing more can be asked or told here."""


class NoPlace(PurseError):
    """What was told is no place of the floor."""

    def __init__(self, place):
        self.place = place


class NoPair(PurseError):
    """What was told is no pair within the brims."""

    def __init__(self, pair):
        self.pair = pair


class NoWay(PurseError):
    """What was told is no number of a way that can be gone."""

    def __init__(self, way):
        self.way = way


class NoChange(PurseError):
    """Coins can't be changed so often."""

    def __init__(self, times):
        self.times = times


class NoCount(PurseError):
    """What was told is no whole number within its bounds."""

    def __init__(self, told):
        self.told = told


class NoName(PurseError):
    """No floor is kept by this name."""

    def __init__(self, name):
        self.name = name


class NoRow(PurseError):
    """What was told is no row of the desk's."""

    def __init__(self, row):
        self.row = row
