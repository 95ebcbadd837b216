"""Words, orders and places as texts, and back."""

from tailranks.errors import BadText
from tailranks.orders import is_order
from tailranks.words import is_word


def word_text(word):
    """Return the text of a word."""
    return f"word {word}"


def order_text(order):
    """Return the text of an order."""
    return " ".join(["order"] + [str(place) for place in order])


def places_text(places):
    """Return the text of a tuple of places."""
    return " ".join([str(place) for place in places]) if places else "none"


def parse_word(text):
    """Return the word whose text it is."""
    words = split_text(text, "word")
    if len(words) < 2 or not is_word(words[1]):
        raise BadText(1)
    if len(words) > 2:
        raise BadText(2)
    return words[1]


def parse_order(text):
    """Return the order whose text it is."""
    words = split_text(text, "order")
    for index in range(1, len(words)):
        if not is_number(words[index], 100):
            raise BadText(index)
    order = tuple([int(word) for word in words[1:]])
    if not is_order(order):
        raise BadText(0)
    return order


def is_number(text, many):
    """Return whether a text is that of an integer from 0 to many - 1."""
    return text in [str(number) for number in range(many)]


def split_text(text, name):
    """Return the words of a text that begins with this name; text may be any value."""
    if not isinstance(text, str):
        raise BadText(None)
    words = text.split(" ")
    if words[0] != name:
        raise BadText(0)
    return words
