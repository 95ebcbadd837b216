"""The errors of the package.

No error sets a message: Python shows the fields that an error was created with.
"""


class TailError(ValueError):
    """The base of all errors but those for something that is looked up and not there."""


class NoWords(TailError):
    """At least one word is needed."""


class NotAlike(TailError):
    """The word with this index has another length than the first one."""

    def __init__(self, index):
        self.index = index


class NoProperty(TailError):
    """Places have no property of this name."""

    def __init__(self, name):
        self.name = name


class BadWish(TailError):
    """The wanted value is not of the kind that its property has."""

    def __init__(self, value):
        self.value = value


class BadWord(TailError):
    """The value is not a word; error says why, as word_error does."""

    def __init__(self, error):
        self.error = error


class BadLetter(TailError):
    """The value is not a letter."""

    def __init__(self, value):
        self.value = value


class TooLong(TailError):
    """The result would have more places than the limit."""

    def __init__(self, limit):
        self.limit = limit


class LastLetter(TailError):
    """The only letter of a word cannot be removed."""


class NotSimple(TailError):
    """The word is not simple: its least tail is at this place."""

    def __init__(self, place):
        self.place = place


class TooManyEdits(TailError):
    """As many edits as possible are in effect."""


class NothingToUndo(TailError):
    """No edit is in effect."""


class BadEdits(TailError):
    """The value is not a batch of edits."""


class BadEdit(TailError):
    """The item with this index is not an edit."""

    def __init__(self, index):
        self.index = index


class Rejected(TailError):
    """The edit with this index could not be done."""

    def __init__(self, index):
        self.index = index


class Busy(TailError):
    """The desk cannot be changed while it runs a batch."""


class BadText(TailError):
    """The word of the text with this index is not in its place."""

    def __init__(self, index):
        self.index = index


class NoPlace(LookupError):
    """The value is not a place of the word."""

    def __init__(self, value):
        self.value = value


class NoIndex(LookupError):
    """The value is not an index of what is numbered."""

    def __init__(self, value):
        self.value = value


class NoVersion(LookupError):
    """The value is not a version of the desk."""

    def __init__(self, value):
        self.value = value
