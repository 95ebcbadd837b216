"""A console: a desk that is worked on with lines of text."""

from tailranks.errors import (
    BadLetter,
    BadWord,
    Busy,
    LastLetter,
    NoPlace,
    NothingToUndo,
    NotSimple,
    TooLong,
    TooManyEdits,
)
from tailranks.factors import factors
from tailranks.heads import count_parts
from tailranks.texts import is_number, order_text, places_text, word_text

KEPT_PAIRS = 20
NUMBERS = 1000
UNKNOWN = "unknown command"


class Console:
    """Does the commands of lines on a desk and remembers the last ones."""

    def __init__(self, desk):
        self.desk = desk
        self.pairs = ()

    def execute(self, line):
        """Return the answer to a line; any other value is no command."""
        text = line if isinstance(line, str) else None
        answer = UNKNOWN if text is None else answer_to(self.desk, text)
        pairs = self.pairs + ((text, answer),)
        self.pairs = pairs[-KEPT_PAIRS:]
        return answer

    @property
    def history(self):
        """The tuple of the last pairs (line, answer), the oldest one first."""
        return self.pairs


def answer_to(desk, line):
    """Return the answer of a desk to a line, or the name of the error that its command raises."""
    try:
        return do_command(desk, line.split(" "))
    except Busy:
        return "error Busy"
    except TooManyEdits:
        return "error TooManyEdits"
    except NoPlace:
        return "error NoPlace"
    except BadLetter:
        return "error BadLetter"
    except TooLong:
        return "error TooLong"
    except LastLetter:
        return "error LastLetter"
    except NotSimple:
        return "error NotSimple"
    except NothingToUndo:
        return "error NothingToUndo"
    except BadWord:
        return "error BadWord"


def do_command(desk, words):
    """Do the command of these words on a desk and return its answer."""
    name = words[0]
    # An empty word stands where there is a space too many.
    if "" in words:
        return UNKNOWN
    if len(words) == 1:
        return do_one_word(desk, name)
    if len(words) == 2:
        return do_two_words(desk, name, words[1])
    if len(words) == 3 and name == "change" and is_number(words[1], NUMBERS):
        return done(desk.change(int(words[1]), words[2]))
    return UNKNOWN


def do_one_word(desk, name):
    """Do a command of one word."""
    if name == "shrink":
        return done(desk.shrink())
    if name == "undo":
        return done(desk.undo())
    if name == "word":
        return word_text(desk.word)
    if name == "order":
        return order_text(desk.order)
    if name == "found":
        return places_text(desk.found or ())
    if name == "parts":
        return str(count_parts(desk.word))
    if name == "factors":
        return " ".join(factors(desk.word))
    return UNKNOWN


def do_two_words(desk, name, value):
    """Do a command of two words."""
    if name == "grow":
        return done(desk.grow(value))
    if name == "look":
        return places_text(desk.look(value))
    if name == "rank" and is_number(value, NUMBERS):
        return str(desk.rank_of(int(value)))
    return UNKNOWN


def done(version):
    """Return the answer to an edit that was done."""
    return f"ok {version}"
