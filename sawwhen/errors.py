"""The errors that the package raises, all of them directly under SightError."""


class SightError(ValueError):
    """Any error of the package."""


class BadHouse(SightError):
    """What should be a house is none."""


class BadRule(SightError):
    """What should be a rule is none."""


class BadState(SightError):
    """What should be a state of the house is none."""


class BadPerson(SightError):
    """What should be a person of the house is none."""


class BadFolder(SightError):
    """What should be a folder of the house is none."""


class BadDeed(SightError):
    """What should be a deed of the house is none."""


class BadDeeds(SightError):
    """What should be a list of deeds is none; place tells where."""

    def __init__(self, place):
        super().__init__(f"no list of deeds, by the place {place}")
        self.place = place


class BadCase(SightError):
    """What should be a case is none."""


class BadOrder(SightError):
    """What should be an order of the case is none."""


class BadLook(SightError):
    """What should be the number of a look is none."""


class BadKnown(SightError):
    """What should be known looks or wishes is none."""


class BadClash(SightError):
    """The known looks leave no order."""


class BadLot(SightError):
    """What should be a lot, or pairs of one, is none."""


class TooMany(SightError):
    """There are more than can be told."""


class NotSure(SightError):
    """The wishes are not sure."""


class BadEvent(SightError):
    """What should be the number of an event is none."""


class BadSpread(SightError):
    """What should be a spread, or a number of last entries, is none."""


class NothingToUndo(SightError):
    """Nothing is left that can be taken back."""


class BadText(SightError):
    """A text is not of the form; line tells from which line on."""

    def __init__(self, line):
        super().__init__(f"no such text, by the line {line}")
        self.line = line


class BadCommand(SightError):
    """What should be a row for the desk is none."""


class NoCase(SightError):
    """The desk keeps no case."""


class BadClaim(SightError):
    """What should be a claim is none."""


class BadPeople(SightError):
    """What should be a tuple of persons is none."""


class Full(SightError):
    """The log has no room for more."""
