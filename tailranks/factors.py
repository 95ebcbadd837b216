"""Simple words, and the cut of a word into them."""

from tailranks.orders import ranks_of
from tailranks.words import tail_order


def is_simple(word):
    """Return whether the word is less than each of its tails behind the first letter."""
    return tail_order(word)[0] == 0


def factor_places(order):
    """Return the ascending tuple of the places at which factors begin."""
    ranks = ranks_of(order)
    return tuple([place for place in range(len(ranks)) if first_lower(ranks[:place], ranks[place]) == place])


def factors(word):
    """Return the tuple of the simple words into which the word is cut, none greater than the one before it."""
    starts = factor_places(tail_order(word))
    ends = starts[1:] + (len(word),)
    return tuple([word[start:end] for start, end in zip(starts, ends)])


def longest_simple(order):
    """Return the tuple of the lengths of the longest simple words that begin at each place."""
    ranks = ranks_of(order)
    # A simple word can go on until a tail is less than the one with which it begins.
    return tuple([first_lower(ranks[place + 1:], ranks[place]) + 1 for place in range(len(ranks))])


def cut_holds(word, value):
    """Return whether any value is the tuple of the factors of the word."""
    if not isinstance(value, tuple) or not all([is_text(part) for part in value]):
        return False
    if "".join(value) != word or not all([is_simple(part) for part in value]):
        return False
    return not any([part > before for part, before in zip(value[1:], value)])


def least_turn(word):
    """Return the lowest place from which the word is least if it is read around."""
    least = 0
    for place in range(1, len(word)):
        if turned(word, place) < turned(word, least):
            least = place
    return least


def first_lower(ranks, rank):
    """Return the index of the first of the ranks that is lower than a rank, or their number if none is."""
    for index, other in enumerate(ranks):
        if other < rank:
            return index
    return len(ranks)


def is_text(value):
    """Return whether any value is a text of at least one character."""
    return isinstance(value, str) and value != ""


def turned(word, place):
    """Return the word read around from a place."""
    return word[place:] + word[:place]
