"""Common beginnings of tails, and the parts of a word."""

from tailranks.errors import NoIndex
from tailranks.fillings import word_along
from tailranks.places import check_place, is_place
from tailranks.words import LETTERS, tail_order


def common_length(word, one, other):
    """Return the number of first letters in which the tails at two places agree."""
    check_place(one, len(word))
    check_place(other, len(word))
    length = 0
    for left, right in zip(word[one:], word[other:]):
        if left != right:
            return length
        length += 1
    return length


def heads_of(word):
    """Return the tuple of the common lengths of neighbours in the tail order."""
    order = tail_order(word)
    return tuple([common_length(word, order[k - 1], order[k]) for k in range(1, len(order))])


def rebuilt(order, value):
    """Return the word of the smallest letters that has the order and these heads, or None."""
    if not are_numbers(value, len(order)) or len(value) != len(order) - 1:
        return None
    numbers = rising_numbers(value)
    if numbers[-1] >= len(LETTERS):
        return None
    # If any word has the order and the heads, this one has: only the choice of letters is free.
    word = word_along(order, numbers)
    if tail_order(word) != order or heads_of(word) != value:
        return None
    return word


def count_parts(word):
    """Return the number of different parts."""
    return len(list(each_part(word)))


def part_at(word, index):
    """Return the part with this number."""
    parts = list(each_part(word))
    if not is_place(index, len(parts)):
        raise NoIndex(index)
    return parts[index]


def part_index(word, value):
    """Return the number of a part, or None for any other value."""
    parts = list(each_part(word))
    return parts.index(value) if value in parts else None


def each_part(word):
    """Yield the parts in ascending order."""
    # A beginning that a tail shares with the tail before it has been yielded there.
    known = (0,) + heads_of(word)
    for place, head in zip(tail_order(word), known):
        for end in range(place + head + 1, len(word) + 1):
            yield word[place:end]


def longest_twice(word):
    """Return the longest part that begins at several places, with these places, or None."""
    order = tail_order(word)
    part = ""
    # The tails ascend, so of parts of equal length the first one is the least.
    for k, head in enumerate(heads_of(word)):
        if head > len(part):
            part = word[order[k]:order[k] + head]
    if part == "":
        return None
    return (part, tuple([place for place in range(len(word)) if word.startswith(part, place)]))


def are_numbers(value, many):
    """Return whether any value is a tuple of integers from 0 to many - 1."""
    return isinstance(value, tuple) and all([is_place(item, many) for item in value])


def rising_numbers(heads):
    """Return the list of the numbers of the letters that rise exactly where a head is 0."""
    numbers = [0]
    for head in heads:
        rise = 1 if head == 0 else 0
        numbers.append(numbers[-1] + rise)
    return numbers
