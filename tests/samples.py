"""Values that several tests use."""

import functools
import itertools
import random

# Values that are no word, no order, no place and no index, whatever the word.
STRANGE = (
    None,
    True,
    False,
    -1,
    -(10 ** 59),
    10 ** 60 - 1,
    "",
    "0",
    "1",
    "A",
    "a b",
    "a\n",
    "x" * 2000,
    (),
    (None,),
    (True,),
    ((0,),),
    (0, (1,)),
    [],
    [0],
    ["a"],
    {},
    {"a": 0},
    {"a": [(), {"b": None}]},
)

ALPHABET = "abcdefghijklmnopqrstuvwxyz"


def short_words(letters, longest):
    """All words of these letters with at most so many letters."""
    for size in range(1, longest + 1):
        for word in itertools.product(letters, repeat=size):
            yield "".join(word)


def long_words():
    """Words of 1 to 24 letters: few letters, many letters, parts that repeat."""
    source = random.Random(1)
    words = []
    for size in range(1, 25):
        for many in (1, 2, 3, 26):
            words.append("".join(source.choice(ALPHABET[:many]) for at in range(size)))
        for block in ("ab", "ba", "aab", "abcab", "zzy"):
            words.append((block * 24)[:size])
            words.append((block * 24)[:size - 1] + "b")
        words.append("a" * (size - 1) + "z")
        words.append("z" * (size - 1) + "a")
        words.append(ALPHABET[:size])
        words.append(ALPHABET[::-1][:size])
    return words


def all_orders(longest):
    """All orders of at most so many places."""
    for size in range(1, longest + 1):
        yield from itertools.permutations(range(size))


def long_orders():
    """Some orders of 7 to 24 places."""
    source = random.Random(2)
    orders = []
    for size in range(7, 25):
        orders.append(tuple(range(size)))
        orders.append(tuple(range(size))[::-1])
        for at in range(5):
            orders.append(tuple(source.sample(range(size), size)))
    return orders


@functools.cache
def slow_order(word):
    """The tail order, by counting the tails that are less than each tail."""
    order = [None] * len(word)
    for place in range(len(word)):
        order[slow_rank(word, place)] = place
    return tuple(order)


def slow_rank(word, place):
    return sum(slow_less(word, other, place) for other in range(len(word)))


def slow_less(word, one, other):
    """Whether the tail at one is less than the tail at other, letter by letter."""
    while one < len(word) and other < len(word):
        if word[one] != word[other]:
            return ALPHABET.index(word[one]) < ALPHABET.index(word[other])
        one += 1
        other += 1
    return one == len(word) and other < len(word)


def no_indexes(many):
    """Values that are no index of so many things."""
    beyond = (many, many + 1, many + 10 ** 30, -many, -many - 1) if many else (0, 1, -1)
    return STRANGE + beyond + (str(many - 1), (many - 1,), [many - 1], "a", (0, 1), {"index": 0})


def drawn_words(many, seed):
    """So many words of 1 to 24 letters, of few and of many different letters, some with parts that repeat."""
    source = random.Random(seed)
    words = []
    for at in range(many):
        letters = ALPHABET[:source.choice((1, 2, 2, 3, 4, 26))]
        size = source.randrange(1, 25)
        block = "".join(source.choice(letters) for k in range(source.choice((size, size, 1, 2, 3, 4, 6))))
        words.append((block * 24)[:size])
    return words


def outcome(action, /, *values, **named):
    """What a call returns, or the error that it raises with its fields."""
    try:
        return ("returned", action(*values, **named))
    except Exception as error:
        return ("raised", type(error).__name__, tuple(vars(error).values()))


def slow_places(word, pattern):
    return tuple(place for place in range(len(word)) if word[place:place + len(pattern)] == pattern)


def slow_finding(word, pattern):
    """The finding, by looking at the tails one by one."""
    tails = [word[place:] for place in slow_order(word)]
    stands = [rank for rank, tail in enumerate(tails) if tail[:len(pattern)] == pattern]
    if stands:
        return ("places", stands[0], stands[-1] + 1)
    return ("between", sum(tail < pattern for tail in tails))


def slow_simple(word):
    return all(slow_less(word, 0, place) for place in range(1, len(word)))


@functools.cache
def slow_factors(word):
    """The longest simple word at the front, again and again."""
    parts = []
    while word:
        end = max(end for end in range(1, len(word) + 1) if slow_simple(word[:end]))
        parts.append(word[:end])
        word = word[end:]
    return tuple(parts)
