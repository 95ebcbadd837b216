"""Far words: words that repeat a block, without writing them out."""

from tailranks.errors import NoIndex
from tailranks.places import check_place, is_place


def far_letter(block, times, place):
    """Return the letter at a place of the far word."""
    check_place(place, len(block) * times)
    return block[place % len(block)]


def far_before(block, times, one, other):
    """Return whether the tail at one is less than the tail at other."""
    check_place(one, len(block) * times)
    check_place(other, len(block) * times)
    left = beginning(block, times, one)
    right = beginning(block, times, other)
    # Tails that agree in a whole block agree to the end of the shorter one, which is less.
    if left == right:
        return one > other
    return left < right


def far_rank(block, times, place):
    """Return the rank of a place."""
    check_place(place, len(block) * times)
    root = shortest_block(block)
    turns = len(block) // len(root) * times
    begin = beginning(root, turns, place)
    # The places behind it with the same beginning have shorter tails, which are less.
    behind = (len(root) * turns - len(begin) - place) // len(root)
    return count_below(beginnings(root, turns), begin) + behind


def far_place(block, times, rank):
    """Return the place with a rank."""
    if not is_place(rank, len(block) * times):
        raise NoIndex(rank)
    root = shortest_block(block)
    rows = beginnings(root, len(block) // len(root) * times)
    for begin, first, many in rows:
        behind = rank - count_below(rows, begin)
        if 0 <= behind < many:
            return first + (many - 1 - behind) * len(root)


def count_places(block, times, pattern):
    """Return the number of places at which the pattern stands."""
    many = len(block) * times - len(pattern) + 1
    if many <= 0:
        return 0
    starts = starts_in(block, pattern)
    rounds, rest = divmod(many, len(block))
    return rounds * len(starts) + len([start for start in starts if start < rest])


def place_at(block, times, pattern, index):
    """Return the place with this index among those at which the pattern stands."""
    if not is_place(index, count_places(block, times, pattern)):
        raise NoIndex(index)
    starts = starts_in(block, pattern)
    rounds, at = divmod(index, len(starts))
    return rounds * len(block) + starts[at]


def shortest_block(block):
    """Return the shortest text that gives the block if it is repeated."""
    for size in range(1, len(block)):
        if block[:size] * (len(block) // size) == block:
            return block[:size]
    return block


def beginning(block, times, place):
    """Return the first letters of a tail: a block of them, or the whole tail if it is shorter."""
    start = place % len(block)
    if place > len(block) * (times - 1):
        return block[start:]
    return block[start:] + block[:start]


def beginnings(root, turns):
    """Return a row (beginning, first, many) for each beginning of a tail.

    The many places with it are first, first + len(root) and so on. The root does
    not repeat a shorter text, so no two rows have the same beginning.
    """
    last = len(root) * (turns - 1)
    rows = [(root, 0, turns)]
    for start in range(1, len(root)):
        rows.append((root[start:] + root[:start], start, turns - 1))
        rows.append((root[start:], last + start, 1))
    return rows


def count_below(rows, begin):
    """Return the number of places in the rows with a lesser beginning."""
    return sum([many for text, first, many in rows if text < begin])


def starts_in(block, pattern):
    """Return the ascending list of the places of the block at which the pattern stands if it goes on."""
    endless = block * (len(pattern) // len(block) + 2)
    return [start for start in range(len(block)) if endless.startswith(pattern, start)]
