"""What several modules need to know of places."""

from tailranks.errors import NoPlace


def is_whole(value):
    """Return whether any value is an int that is not a bool."""
    return isinstance(value, int) and not isinstance(value, bool)


def is_place(value, many):
    """Return whether any value is an integer from 0 to many - 1."""
    return is_whole(value) and 0 <= value < many


def check_place(value, many):
    """Raise NoPlace for any value that is not one of so many places."""
    if not is_place(value, many):
        raise NoPlace(value)


def rank_places(order):
    """Return the tuple of the indexes at which 0, 1, .. stand in the order."""
    ranks = [0] * len(order)
    for rank, place in enumerate(order):
        ranks[place] = rank
    return tuple(ranks)
