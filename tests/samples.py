"""Values that several tests use."""

import itertools
import random

# Values that are no word, no order, no place and no index, whatever the word.
STRANGE = (
    None,
    True,
    False,
    -1,
    -(10 ** 59),
    10 ** 60 - 1,
    "",
    "0",
    "1",
    "A",
    "a b",
    "a\n",
    "x" * 2000,
    (),
    (None,),
    (True,),
    ((0,),),
    (0, (1,)),
    [],
    [0],
    ["a"],
    {},
    {"a": 0},
    {"a": [(), {"b": None}]},
)

ALPHABET = "abcdefghijklmnopqrstuvwxyz"


def short_words(letters, longest):
    """All words of these letters with at most so many letters."""
    for size in range(1, longest + 1):
        for word in itertools.product(letters, repeat=size):
            yield "".join(word)


def long_words():
    """Words of 1 to 24 letters: few letters, many letters, parts that repeat."""
    source = random.Random(1)
    words = []
    for size in range(1, 25):
        for many in (1, 2, 3, 26):
            words.append("".join(source.choice(ALPHABET[:many]) for at in range(size)))
        for block in ("ab", "ba", "aab", "abcab", "zzy"):
            words.append((block * 24)[:size])
            words.append((block * 24)[:size - 1] + "b")
        words.append("a" * (size - 1) + "z")
        words.append("z" * (size - 1) + "a")
        words.append(ALPHABET[:size])
        words.append(ALPHABET[::-1][:size])
    return words


def all_orders(longest):
    """All orders of at most so many places."""
    for size in range(1, longest + 1):
        yield from itertools.permutations(range(size))


def long_orders():
    """Some orders of 7 to 24 places."""
    source = random.Random(2)
    orders = []
    for size in range(7, 25):
        orders.append(tuple(range(size)))
        orders.append(tuple(range(size))[::-1])
        for at in range(5):
            orders.append(tuple(source.sample(range(size), size)))
    return orders


def slow_order(word):
    """The tail order, by counting the tails that are less than each tail."""
    order = [None] * len(word)
    for place in range(len(word)):
        order[slow_rank(word, place)] = place
    return tuple(order)


def slow_rank(word, place):
    return sum(slow_less(word, other, place) for other in range(len(word)))


def slow_less(word, one, other):
    """Whether the tail at one is less than the tail at other, letter by letter."""
    while one < len(word) and other < len(word):
        if word[one] != word[other]:
            return ALPHABET.index(word[one]) < ALPHABET.index(word[other])
        one += 1
        other += 1
    return one == len(word) and other < len(word)


def no_indexes(many):
    """Values that are no index of so many things."""
    beyond = (many, many + 1, many + 10 ** 30, -many, -many - 1) if many else (0, 1, -1)
    return STRANGE + beyond + (str(many - 1), (many - 1,), [many - 1], "a", (0, 1), {"index": 0})
