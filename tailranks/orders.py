"""Orders of places, and the words that have them."""

from tailranks.bounds import MAX_WORD
from tailranks.errors import NoIndex, NotAlike, TooLong
from tailranks.places import is_place, rank_places
from tailranks.words import LETTERS, tail_ranks


def is_order(value):
    """Return whether any value is an order."""
    return order_error(value) is None


def order_error(value):
    """Return None for an order, otherwise (None, "order") or (index, "place")."""
    if not isinstance(value, tuple) or not 1 <= len(value) <= MAX_WORD:
        return (None, "order")
    for index, item in enumerate(value):
        if not is_place(item, len(value)) or item in value[:index]:
            return (index, "place")
    return None


def ranks_of(order):
    """Return the tuple of the ranks of the places 0 to n - 1."""
    return rank_places(order)


def strict_steps(order):
    """Return the ascending tuple of the indexes at which the letters must rise."""
    # The last item is the rank of the empty tail, which is less than all others.
    ranks = ranks_of(order) + (-1,)
    nexts = [ranks[place + 1] for place in order]
    return tuple([k for k in range(1, len(order)) if nexts[k - 1] > nexts[k]])


def fewest_letters(order):
    """Return the fewest different letters of a word with the order."""
    return len(strict_steps(order)) + 1


def least_word(order):
    """Return the word with the order in which each letter is as small as possible."""
    steps = strict_steps(order)
    letters = [""] * len(order)
    rises = 0
    for k, place in enumerate(order):
        if k in steps:
            rises += 1
        letters[place] = LETTERS[rises]
    return "".join(letters)


def find_difference(one, other):
    """Return the least pair of places whose tails two words order differently, or None."""
    if len(one) != len(other):
        raise NotAlike(1)
    left = tail_ranks(one)
    right = tail_ranks(other)
    for first in range(len(one)):
        for second in range(first + 1, len(one)):
            if (left[first] < left[second]) != (right[first] < right[second]):
                return (first, second)
    return None


def shrunk(order):
    """Return the order of the tails that are left without the first letter."""
    return tuple([place - 1 for place in order if place > 0])


def grown(order, index):
    """Return the order with one more letter at the front, whose tail has the rank index."""
    if not is_place(index, len(order) + 1):
        raise NoIndex(index)
    if len(order) >= MAX_WORD:
        raise TooLong(MAX_WORD)
    moved = [place + 1 for place in order]
    return tuple(moved[:index] + [0] + moved[index:])
