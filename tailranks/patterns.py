"""Patterns in words, and places with wanted properties."""

from tailranks.errors import BadWish, NoProperty
from tailranks.factors import factor_places
from tailranks.orders import strict_steps
from tailranks.places import is_whole, is_place
from tailranks.words import is_letter, tail_order, tail_ranks

PROPERTIES = ("letter", "rank", "factor", "strict")


def find(word, pattern):
    """Return ("places", low, high) or ("between", index): where the pattern is in the tail order."""
    less = len([place for place in range(len(word)) if word[place:] < pattern])
    many = len(places_of(word, pattern))
    # A tail that begins with the pattern is not less than it, and no other tail stands between two of these.
    if many > 0:
        return ("places", less, less + many)
    return ("between", less)


def places_of(word, pattern):
    """Return the ascending tuple of the places at which the pattern stands."""
    return tuple([place for place in range(len(word)) if word.startswith(pattern, place)])


def finding_holds(word, pattern, value):
    """Return whether any value is the finding of the pattern in the word."""
    if not isinstance(value, tuple):
        return False
    # True is equal to 1, but it is not an integer here.
    return all([is_place(item, len(word) + 1) for item in value[1:]]) and value == find(word, pattern)


def each_place(word, pattern):
    """Yield the places at which the pattern stands, the one with the least tail first."""
    for place in tail_order(word):
        if word.startswith(pattern, place):
            yield place


def select(word, **wanted):
    """Return the ascending tuple of the places that have all wanted properties."""
    for name in wanted:
        if name not in PROPERTIES:
            raise NoProperty(name)
    for name, value in wanted.items():
        if not is_wish(name, value):
            raise BadWish(value)
    rows = property_rows(word)
    return tuple([place for place, row in enumerate(rows) if has_all(row, wanted)])


def is_wish(name, value):
    """Return whether any value is of the kind that the property of this name has."""
    if name == "letter":
        return is_letter(value)
    if name == "rank":
        return is_whole(value)
    return isinstance(value, bool)


def property_rows(word):
    """Return a list with a dict of the properties of each place."""
    order = tail_order(word)
    starts = factor_places(order)
    steps = strict_steps(order)
    rows = []
    for place, rank in enumerate(tail_ranks(word)):
        rows.append({"letter": word[place], "rank": rank, "factor": place in starts, "strict": rank in steps})
    return rows


def has_all(row, wanted):
    """Return whether a row of properties has all wanted values."""
    return all([row[name] == value for name, value in wanted.items()])
