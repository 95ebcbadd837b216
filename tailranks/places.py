"""What words and orders both need to know of places."""


def is_place(value, many):
    """Return whether any value is an integer from 0 to many - 1."""
    if not isinstance(value, int) or isinstance(value, bool):
        return False
    return 0 <= value < many


def rank_places(order):
    """Return the tuple of the indexes at which 0, 1, .. stand in the order."""
    ranks = [0] * len(order)
    for rank, place in enumerate(order):
        ranks[place] = rank
    return tuple(ranks)
