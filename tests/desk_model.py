"""A slow model of desks, and all that a desk tells of itself."""

import random

from tailranks.desks import Desk, LoggedDesk, LoggedSimpleDesk, SimpleDesk
from tests.samples import ALPHABET, STRANGE, slow_order, slow_places, slow_simple

KINDS = (Desk, SimpleDesk, LoggedDesk, LoggedSimpleDesk)
FREE_KINDS = (Desk, LoggedDesk)
SIMPLE_KINDS = (SimpleDesk, LoggedSimpleDesk)
LOGGED_KINDS = (LoggedDesk, LoggedSimpleDesk)

# Values that are no letters.
NO_LETTERS = STRANGE + (0, 5, "ab", "A", "Z", " ", "`", "{", "a\n", ("a",), ["a"], {"a": "a"})


def state(desk):
    """All that a desk tells."""
    return {
        "word": desk.word,
        "order": desk.order,
        "version": desk.version,
        "pattern": desk.pattern,
        "found": desk.found,
        "edits": desk.edits(),
        "len": len(desk),
        "str": str(desk),
        "walk": list(desk.walk()),
        "words": [desk.word_at(version) for version in range(desk.version + 1)],
        "letters": [desk[place] for place in range(len(desk))],
        "ranks": [desk.rank_of(place) for place in range(len(desk))],
        "log": desk.log if isinstance(desk, LoggedDesk) else None,
    }


class Refused(Exception):
    """What the model raises: the name of the error's class and its fields."""


class Model:
    def __init__(self, kind, word):
        self.kind = kind
        self.words = [word]
        self.steps = []
        self.pattern = None
        self.log = []

    def state(self):
        word = self.words[-1]
        order = slow_order(word)
        return {
            "word": word,
            "order": order,
            "version": len(self.steps),
            "pattern": self.pattern,
            "found": None if self.pattern is None else slow_places(word, self.pattern),
            "edits": tuple(self.steps),
            "len": len(word),
            "str": "%d letters, %d edits" % (len(word), len(self.steps)),
            "walk": list(enumerate(self.words)),
            "words": list(self.words),
            "letters": list(word),
            "ranks": [order.index(place) for place in range(len(word))],
            "log": tuple(self.log) if self.kind in LOGGED_KINDS else None,
        }

    def result(self, edit):
        """The word that an edit gives."""
        word = self.words[-1]
        name, *values = edit
        if len(self.steps) == 60:
            raise Refused("TooManyEdits", ())
        if name == "change" and not (type(values[0]) is int and 0 <= values[0] < len(word)):
            raise Refused("NoPlace", (values[0],))
        if values and not (type(values[-1]) is str and len(values[-1]) == 1 and values[-1] in ALPHABET):
            raise Refused("BadLetter", (values[-1],))
        if name == "grow" and len(word) == 24:
            raise Refused("TooLong", (24,))
        if name == "shrink" and len(word) == 1:
            raise Refused("LastLetter", ())
        if name == "change":
            letters = list(word)
            letters[values[0]] = values[1]
            word = "".join(letters)
        else:
            word = values[0] + word if name == "grow" else word[1:]
        if self.kind in SIMPLE_KINDS and not slow_simple(word):
            raise Refused("NotSimple", (slow_order(word)[0],))
        return word

    def edit(self, edit):
        self.words.append(self.result(edit))
        self.steps.append(edit)

    def undo(self):
        if not self.steps:
            raise Refused("NothingToUndo", ())
        self.steps.pop()
        self.words.pop()

    def run(self, edits, chosen):
        """Do the edits; chosen are the patterns that on_step assigns after each, or None."""
        before = (list(self.words), list(self.steps), self.pattern)
        for index, edit in enumerate(edits):
            try:
                self.edit(edit)
            except Refused:
                self.words, self.steps, self.pattern = before
                raise Refused("Rejected", (index,))
            if chosen is not None:
                self.pattern = chosen[index]

    def outcome(self, name, *values):
        """The outcome of a call, as tests.samples.outcome tells it."""
        try:
            if name == "undo":
                self.undo()
            elif name == "run":
                self.run(*values)
            else:
                self.edit((name,) + values)
        except Refused as error:
            return ("raised",) + error.args
        self.log.append((name, len(self.steps)))
        return ("returned", len(self.steps))


def drawn_edit(source, word):
    """An edit that often can be done."""
    place = source.choice((0, len(word) - 1, len(word), source.randrange(len(word)), source.choice(STRANGE)))
    if source.random() < 0.7:
        place = source.randrange(len(word))
    letter = source.choice("aaabbbcz")
    if source.random() < 0.08:
        letter = source.choice(NO_LETTERS)
    return source.choice((("change", place, letter), ("grow", letter), ("grow", letter), ("shrink",)))


def simple_words(many, seed):
    """Some simple words of 1 to 24 letters."""
    source = random.Random(seed)
    words = ["a", "z", "ab", "aab", "a" * 23 + "b", ALPHABET[:24]]
    while len(words) < many:
        size = source.randrange(1, 25)
        word = "a" * source.randrange(4) + "".join(source.choice("abc") for k in range(size))
        if len(word) <= 24 and slow_simple(word):
            words.append(word)
    return words
