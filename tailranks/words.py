"""Words, and the order of their tails."""

from tailranks.bounds import MAX_WORD
from tailranks.errors import NoPlace, NotAlike, NoWords
from tailranks.places import is_place, rank_places

LETTERS = "abcdefghijklmnopqrstuvwxyz"


def is_word(value):
    """Return whether any value is a word."""
    return word_error(value) is None


def word_error(value):
    """Return None for a word, otherwise (None, "word") or (place, "letter")."""
    if not isinstance(value, str) or not 1 <= len(value) <= MAX_WORD:
        return (None, "word")
    for place, letter in enumerate(value):
        if letter not in LETTERS:
            return (place, "letter")
    return None


def is_letter(value):
    """Return whether any value is a letter."""
    return is_word(value) and len(value) == 1


def tail_order(word):
    """Return the tuple of the places in the order of their tails."""
    # The str makes plain that texts are sorted: desks have an order of their own.
    tails = sorted([str(word[place:]) for place in range(len(word))])
    # No two tails have the same length, so the length of a tail tells its place.
    return tuple([len(word) - len(tail) for tail in tails])


def tail_ranks(word):
    """Return the tuple of the ranks of all places."""
    return rank_places(tail_order(word))


def comes_before(word, one, other):
    """Return whether the tail at one is less than the tail at other."""
    for value in (one, other):
        if not is_place(value, len(word)):
            raise NoPlace(value)
    return word[one:] < word[other:]


def agreed(*words):
    """Return all pairs (one, other) with the tail at one less than that at other in all words."""
    if not words:
        raise NoWords()
    many = len(words[0])
    for index, word in enumerate(words):
        if len(word) != many:
            raise NotAlike(index)
    rows = [tail_ranks(word) for word in words]
    pairs = [(one, other) for one in range(many) for other in range(many)]
    return tuple([pair for pair in pairs if rises_in_all(rows, pair)])


def rises_in_all(rows, pair):
    """Return whether the first place of the pair has the lower rank in all rows of ranks."""
    one, other = pair
    return all([ranks[one] < ranks[other] for ranks in rows])
