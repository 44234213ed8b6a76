"""The errors of the package."""


class FamilyError(ValueError):
    """The base class of all errors of the package."""


class BadText(FamilyError):
    """A text is not the text of what is read."""


class Unknown(FamilyError):
    """A name or a place leads nowhere."""


class NoProfile(FamilyError):
    """A tuple of families is not the profile of a closed term."""


class NotThere(FamilyError):
    """A value or a number is not among those that are counted."""


class BadCode(FamilyError):
    """A text of digits stores nothing; the field place tells where it goes wrong."""

    def __init__(self, place):
        super().__init__("the text stores nothing")
        self.place = place


class BadProgram(FamilyError):
    """A value is not a program."""


class BadMaker(FamilyError):
    """A maker does not go with the signature."""


class BadFunction(FamilyError):
    """A function does not go with the program."""


class BadQuestion(FamilyError):
    """A question does not go with the signature."""


class InUse(FamilyError):
    """Something cannot be taken away, because something else needs it."""


class Taken(FamilyError):
    """A name is given already."""


class Full(FamilyError):
    """There is no room for more."""


class NothingToUndo(FamilyError):
    """No step is left that could be undone."""
