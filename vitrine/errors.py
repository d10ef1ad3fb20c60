"""The refusals, all straight under one class, so that a caller can take any of them by it."""


class HouseError(ValueError):
    """Any refusal."""


class BadName(HouseError):
    """A name that is no name."""


class Taken(HouseError):
    """A name, or a pair of kinds, that is there already."""


class BadWord(HouseError):
    """A word that no place may have."""


class Full(HouseError):
    """No room for one more."""


class BadKind(HouseError):
    """A kind that is no name."""


class BadRange(HouseError):
    """Two bounds that are no range."""


class BadLimit(HouseError):
    """A number that is no limit of light."""


class BadDay(HouseError):
    """A number that is no day."""


class NoPlace(HouseError):
    """No place has the name."""


class BadGrade(HouseError):
    """A number that is no grade."""


class NoThing(HouseError):
    """No thing has the name."""


class TooSoon(HouseError):
    """A paper of a day that is not later than the home's."""


class Clash(HouseError):
    """A day that another paper, or another loan, of the thing has."""


class NoPaper(HouseError):
    """No paper and no loan has the number."""


class NoBar(HouseError):
    """The two kinds are not barred."""


class BadCount(HouseError):
    """A number that is no size of a show."""


class Twice(HouseError):
    """A thing that a show names twice."""


class NoShow(HouseError):
    """No show has the name."""


class BadPrice(HouseError):
    """A number that is no price."""


class NoDeed(HouseError):
    """Nothing to undo, or to do again."""


class BadStory(HouseError):
    """A list of numbers that is no story of the papers."""


class BadRow(HouseError):
    """A row that is wrong; at is its place, from 0."""

    def __init__(self, at):
        self.at = at
