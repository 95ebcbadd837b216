"""The words that have an order, counted and numbered without listing them.

Along the order, a filling is the least word with each letter lifted by some
number of letters. These lifts never fall, and every tuple of numbers from 0 to
the room above the least word that never falls gives a filling. So the fillings
are counted and numbered as such tuples are.
"""

from tailranks.errors import NoIndex
from tailranks.orders import fewest_letters, least_word
from tailranks.places import is_place
from tailranks.words import LETTERS, tail_order


def count_fillings(order, many):
    """Return the number of words of the first many letters that have the order."""
    return count_lifts(len(order), room_above(order, many))


def filling_at(order, many, index):
    """Return the filling with this index."""
    if not is_place(index, count_fillings(order, many)):
        raise NoIndex(index)
    lifts = lifts_at(len(order), room_above(order, many), index)
    return lifted(order, least_numbers(order), lifts)


def filling_index(word, many):
    """Return the index of the word among the fillings of its tail order."""
    order = tail_order(word)
    least = least_numbers(order)
    room = room_above(order, many)
    index = 0
    low = 0
    for k, place in enumerate(order):
        lift = LETTERS.index(word[place]) - least[k]
        left = len(order) - k
        # What comes before with the same lifts so far begins at low or above, but below lift.
        index += count_lifts(left, room - low) - count_lifts(left, room - lift)
        low = lift
    return index


def each_filling(order, many):
    """Yield the fillings in the order of their letters read along the order."""
    room = room_above(order, many)
    if room < 0:
        return
    least = least_numbers(order)
    lifts = [0] * len(order)
    highest = [room] * len(order)
    yield lifted(order, least, lifts)
    while lifts != highest:
        lifts = next_lifts(lifts, room)
        yield lifted(order, least, lifts)


def count_orders(n, steps):
    """Return the number of orders of n places that have exactly so many strict steps."""
    if not 0 <= steps < n:
        return 0
    # Each of the many ** n words is a filling of one order. With the number of fillings
    # this leaves one solution for all numbers of letters: the Eulerian numbers.
    counts = [1]
    for size in range(2, n + 1):
        same = counts + [0]
        fewer = [0] + counts
        counts = [(k + 1) * same[k] + (size - k) * fewer[k] for k in range(size)]
    return counts[steps]


def room_above(order, many):
    """Return by how many letters the least word can be lifted; below 0 if it has too many letters."""
    return min(many, len(LETTERS)) - fewest_letters(order)


def count_lifts(length, room):
    """Return the number of tuples of so many numbers from 0 to room that never fall."""
    if room < 0:
        return 0
    ways = 1
    for k in range(1, length + 1):
        ways = ways * (room + k) // k
    return ways


def lifts_at(length, room, index):
    """Return the list of the lifts that so many others come before."""
    lifts = []
    lift = 0
    for left in range(length - 1, -1, -1):
        same = count_lifts(left, room - lift)
        while index >= same:
            index -= same
            lift += 1
            same = count_lifts(left, room - lift)
        lifts.append(lift)
    return lifts


def next_lifts(lifts, room):
    """Return the lifts that follow; not all of them are as high as the room."""
    last = len(lifts) - 1
    while lifts[last] == room:
        last -= 1
    return lifts[:last] + [lifts[last] + 1] * (len(lifts) - last)


def least_numbers(order):
    """Return the list of the numbers of the letters of the least word along the order."""
    word = least_word(order)
    return [LETTERS.index(word[place]) for place in order]


def lifted(order, least, lifts):
    """Return the word with the least numbers along the order, lifted."""
    return word_along(order, [number + lift for number, lift in zip(least, lifts)])


def word_along(order, numbers):
    """Return the word that has the letters with these numbers along the order."""
    letters = [""] * len(order)
    for place, number in zip(order, numbers):
        letters[place] = LETTERS[number]
    return "".join(letters)
