"""The errors of the package."""


class ArchwayError(ValueError):
    """The base class of all errors of the package."""


class InvalidText(ArchwayError):
    """A row of places is not a text."""


class InvalidPlace(InvalidText):
    """A place has not one of the labels."""

    def __init__(self, number):
        super().__init__(f"place {number} has not one of the labels")
        self.number = number


class UnbalancedText(InvalidText):
    """Calls and returns do not match."""

    def __init__(self, place):
        super().__init__(f"nothing matches the call or return at place {place}")
        self.place = place


class TextTooLong(InvalidText):
    """A text would have more than 200 places."""


class InvalidWord(ArchwayError):
    """Reading a written text or sentence fails at a word."""

    def __init__(self, number):
        super().__init__(f"reading fails at word {number}")
        self.number = number


class SentenceTooLarge(ArchwayError):
    """A written sentence has too many lines or sets."""


class DifferentLabels(ArchwayError):
    """Two readers have different labels."""


class TooManyValues(ArchwayError):
    """A reader would have more than 60 values, or two readers more than 200 joined pairs."""


class TooManySteps(ArchwayError):
    """A machine would have too many steps."""


class TooManyLines(ArchwayError):
    """A sentence would have too many lines."""


class DocumentError(ArchwayError):
    """The base class of the errors that only documents raise."""


class UnknownName(DocumentError):
    """A name is not kept."""

    def __init__(self, name):
        super().__init__(f"the name {name} is not kept")
        self.name = name


class InvalidName(DocumentError):
    """A name has not the form of a name."""

    def __init__(self, name):
        super().__init__(f"{name!r} has not the form of a name")
        self.name = name


class TooManyNames(DocumentError):
    """There are 8 other names already."""


class OutsideText(DocumentError):
    """A place or a stretch does not lie in the text."""


class NotBalanced(DocumentError):
    """A row or a stretch is not balanced."""


class TooManyEdits(DocumentError):
    """There are 100 edits that can be undone."""
