"""The errors of the package, all direct subclasses of CoverError."""


class CoverError(ValueError):
    """Any error that the package raises on purpose."""


class InvalidPart(CoverError):
    """What was passed as a part is not one."""


class InvalidTerms(CoverError):
    """With these terms there is no part."""


class InvalidState(CoverError):
    """What was passed as a state is not one of the part."""


class InvalidKind(CoverError):
    """What was passed as a kind of fault is not one."""


class InvalidEvent(CoverError):
    """The event is not possible."""


class InvalidCourse(CoverError):
    """What was passed as a course is not one of the part."""


class InvalidRound(CoverError):
    """What was passed as a round is not one of the part."""


class InvalidNumber(CoverError):
    """The number is not an integer in its range."""


class OtherLives(CoverError):
    """The parts can not be compared: their lives or most differ."""


class TooLarge(CoverError):
    """There are more states, pairs or courses than the limit."""


class TooLong(CoverError):
    """There are more days than the limit."""


class ParseError(CoverError):
    """The text is not in the format."""


class InvalidWeights(CoverError):
    """What was passed as weights is not weights of the part."""


class InvalidGoods(CoverError):
    """What was passed as goods is not goods."""


class InvalidRecord(CoverError):
    """What was passed as a record is not one of the part."""


class NotAllowed(CoverError):
    """The record is not allowed."""


class Refused(CoverError):
    """The payer can't be asked."""


class InvalidName(CoverError):
    """What was passed as a name is not one."""


class Exists(CoverError):
    """There is a part with the name already."""


class Full(CoverError):
    """The depot takes no further part."""


class NoPart(CoverError):
    """There is no part with the name."""


class InvalidDay(CoverError):
    """What was passed as the faults of a day is not such a tuple."""


class Taken(CoverError):
    """There is an edition with the name already."""


class NoEdition(CoverError):
    """There is no edition with the name."""


class NothingToUndo(CoverError):
    """There is nothing to undo or to redo."""
