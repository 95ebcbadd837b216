"""Desks: words that are edited, with what was edited and can be undone.

Everything that an edit changes on a desk is a text or a tuple that is replaced
as a whole. So a run that fails puts back what it found, and a copy shares it.
"""

from tailranks.bounds import BATCH, MAX_EDITS, MAX_WORD
from tailranks.errors import (
    BadEdit,
    BadEdits,
    BadLetter,
    BadWord,
    Busy,
    LastLetter,
    NoPlace,
    NothingToUndo,
    NotSimple,
    NoVersion,
    Rejected,
    TailError,
    TooLong,
    TooManyEdits,
)
from tailranks.factors import is_simple
from tailranks.patterns import find, places_of
from tailranks.places import check_place, is_place
from tailranks.texts import parse_word
from tailranks.words import is_letter, is_word, tail_order, tail_ranks, word_error

# How many items an edit with this name has.
SIZES = {"change": 3, "grow": 2, "shrink": 1}


def check_word(value):
    """Raise BadWord for any value that is not a word."""
    error = word_error(value)
    if error is not None:
        raise BadWord(error)


def check_letter(value):
    """Raise BadLetter for any value that is not a letter."""
    if not is_letter(value):
        raise BadLetter(value)


def check_simple(word):
    """Raise NotSimple with the place of the least tail for a word that is not simple."""
    if not is_simple(word):
        raise NotSimple(tail_order(word)[0])


def changed(word, place, letter):
    """Return the word with the letter at a place."""
    check_place(place, len(word))
    check_letter(letter)
    return word[:place] + letter + word[place + 1:]


def lengthened(word, letter):
    """Return the word with the letter in front."""
    check_letter(letter)
    if len(word) >= MAX_WORD:
        raise TooLong(MAX_WORD)
    return letter + word


def shortened(word):
    """Return the word without its first letter."""
    if len(word) == 1:
        raise LastLetter()
    return word[1:]


def edited(word, edit):
    """Return the word that results from an edit."""
    if edit[0] == "change":
        return changed(word, edit[1], edit[2])
    if edit[0] == "grow":
        return lengthened(word, edit[1])
    return shortened(word)


class Desk:
    """A word that grows and shrinks at the front, is changed and undone."""

    MOST_EDITS = 60
    NAMES = ("change", "grow", "shrink")

    def __init__(self, word):
        check_word(word)
        self.text = word
        # The words before each of the edits in effect, and these edits.
        self.earlier = ()
        self.steps = ()
        self.chosen = None
        self.busy = False

    @classmethod
    def read(cls, text):
        """Return a new desk with the word of a text."""
        return cls(parse_word(text))

    @classmethod
    def anew(cls, word):
        """Return a new desk of the class of the desk that is asked."""
        return cls(word)

    @staticmethod
    def is_edit(value):
        """Return whether any value is an edit."""
        if not isinstance(value, tuple) or value == ():
            return False
        name = value[0]
        return isinstance(name, str) and name in Desk.NAMES and len(value) == SIZES[name]

    @property
    def word(self):
        """The current word."""
        return self.text

    @property
    def order(self):
        """The tail order of the current word."""
        return tail_order(self.text)

    @property
    def version(self):
        """The number of edits in effect."""
        return len(self.steps)

    @property
    def pattern(self):
        """The word that is looked for, or None."""
        return self.chosen

    @pattern.setter
    def pattern(self, value):
        if value is not None:
            check_word(value)
        self.chosen = value

    @property
    def found(self):
        """The tuple of the places at which the pattern stands, or None without a pattern."""
        return None if self.chosen is None else places_of(self.text, self.chosen)

    def look(self, value):
        """Assign the pattern and return where it is found."""
        self.pattern = value
        return self.found

    def change(self, place, letter):
        """Put a letter at a place and return the new version."""
        return self.do_alone(("change", place, letter))

    def grow(self, letter):
        """Put a letter in front of the word and return the new version."""
        return self.do_alone(("grow", letter))

    def shrink(self):
        """Remove the first letter and return the new version."""
        return self.do_alone(("shrink",))

    def undo(self):
        """Remove the last edit in effect and return the new version."""
        self.check_free()
        if len(self.steps) == 0:
            raise NothingToUndo()
        self.text = self.earlier[-1]
        self.earlier = self.earlier[:-1]
        self.steps = self.steps[:-1]
        return len(self.steps)

    def run(self, edits, *, on_step=None):
        """Do all edits or none of them, call on_step after each, and return the new version."""
        self.check_free()
        batch = self.batch_of(edits)
        text, earlier, steps, chosen = self.text, self.earlier, self.steps, self.chosen
        try:
            self.do_all(batch, on_step)
            # What the batch did is kept only if neither an edit nor on_step raised anything.
            text, earlier, steps, chosen = self.text, self.earlier, self.steps, self.chosen
        finally:
            self.busy = False
            self.text, self.earlier, self.steps, self.chosen = text, earlier, steps, chosen
        return len(self.steps)

    def rank_of(self, place):
        """Return the rank of a place of the current word."""
        check_place(place, len(self.text))
        return tail_ranks(self.text)[place]

    def word_at(self, version):
        """Return the word after so many of the edits in effect."""
        if not is_place(version, len(self.steps) + 1):
            raise NoVersion(version)
        return self.all_words()[version]

    def edits(self):
        """Return the tuple of the edits in effect."""
        return self.steps

    def walk(self):
        """Yield a tuple (version, word) for each version."""
        for version, word in enumerate(self.all_words()):
            yield (version, word)

    def copy(self):
        """Return an independent desk of the same class that can undo the same edits."""
        twin = self.anew(self.text)
        twin.earlier = self.earlier
        twin.steps = self.steps
        twin.chosen = self.chosen
        return twin

    def __getitem__(self, at):
        check_place(at, len(self.text))
        return self.text[at]

    def __iter__(self):
        raise TypeError("a desk is not iterated over")

    def __contains__(self, x):
        return is_word(x) and x in self.text

    def __lt__(self, other):
        if not isinstance(other, Desk):
            return NotImplemented
        return self.text < other.text

    def __eq__(self, other):
        return isinstance(other, Desk) and self.text == other.text

    def __call__(self, pattern):
        check_word(pattern)
        return find(self.text, pattern)

    def __len__(self):
        return len(self.text)

    def __str__(self):
        return f"{len(self.text)} letters, {len(self.steps)} edits"

    def all_words(self):
        """Return the tuple of the words of all versions."""
        return self.earlier + (self.text,)

    def check_free(self):
        """Raise Busy while on_step runs."""
        if self.busy:
            raise Busy()

    def check_result(self, word):
        """Raise an error if the desk does not accept the word that would result from an edit."""
        # A plain desk accepts every word.
        pass

    def do_alone(self, edit):
        """Do an edit that is not within a run and return the new version."""
        self.check_free()
        self.do_edit(edit)
        return len(self.steps)

    def do_edit(self, edit):
        """Do an edit, or raise its error."""
        if len(self.steps) >= MAX_EDITS:
            raise TooManyEdits()
        word = edited(self.text, edit)
        self.check_result(word)
        self.earlier = self.earlier + (self.text,)
        self.steps = self.steps + (edit,)
        self.text = word

    def batch_of(self, edits):
        """Return the edits of any value that is a batch as a tuple."""
        if not isinstance(edits, (list, tuple)) or len(edits) > BATCH:
            raise BadEdits()
        batch = tuple(edits)
        for index, item in enumerate(batch):
            if not self.is_edit(item):
                raise BadEdit(index)
        return batch

    def do_all(self, batch, on_step):
        """Do the edits of a batch in order, and call on_step after each of them."""
        for index, edit in enumerate(batch):
            try:
                self.do_edit(edit)
            except (TailError, NoPlace):
                raise Rejected(index)
            if on_step is not None:
                self.busy = True
                on_step(self)
                self.busy = False


class SimpleDesk(Desk):
    """A desk whose word is always simple."""

    def __init__(self, word):
        super().__init__(word)
        check_simple(word)

    def check_result(self, word):
        """Raise NotSimple if the word that would result is not simple."""
        check_simple(word)


class LoggedDesk(Desk):
    """A desk that keeps a row for each editing call, undo and run that raised nothing."""

    def __init__(self, word):
        super().__init__(word)
        self.rows = ()

    @property
    def log(self):
        """The tuple of the rows (name, version)."""
        return self.rows

    # The desk above acts first: so a call that raises adds no row, and on_step sees none of its run.

    def change(self, place, letter):
        """Put a letter at a place, add the row and return the new version."""
        reached = super().change(place, letter)
        return self.noted("change", reached)

    def grow(self, letter):
        """Put a letter in front of the word, add the row and return the new version."""
        reached = super().grow(letter)
        return self.noted("grow", reached)

    def shrink(self):
        """Remove the first letter, add the row and return the new version."""
        reached = super().shrink()
        return self.noted("shrink", reached)

    def undo(self):
        """Remove the last edit in effect, add the row and return the new version."""
        reached = super().undo()
        return self.noted("undo", reached)

    def run(self, edits, *, on_step=None):
        """Do all edits or none of them, add one row for all and return the new version."""
        reached = super().run(edits, on_step=on_step)
        return self.noted("run", reached)

    def copy(self):
        """Return an independent desk with the same log, too."""
        twin = super().copy()
        twin.rows = self.rows
        return twin

    def noted(self, name, reached):
        """Add the row of a call of the method of this name and return the version that it reached."""
        self.rows = self.rows + ((name, reached),)
        return reached


class LoggedSimpleDesk(LoggedDesk, SimpleDesk):
    """A desk whose word is always simple and that keeps a log."""

    # The document lists a constructor for each class.
    def __init__(self, word):
        super().__init__(word)
