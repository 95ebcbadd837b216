import itertools
import unittest

from tailranks.errors import NoIndex, NotAlike, TooLong
from tailranks.orders import (
    fewest_letters,
    find_difference,
    grown,
    is_order,
    least_word,
    order_error,
    ranks_of,
    shrunk,
    strict_steps,
)
from tailranks.words import is_word, tail_order
from tests.samples import ALPHABET, STRANGE, all_orders, long_orders, long_words
from tests.samples import short_words, slow_less, slow_order


def slow_steps(order):
    rank = {place: index for index, place in enumerate(order)}
    rank[len(order)] = -1
    return tuple(
        k for k in range(1, len(order)) if rank[order[k - 1] + 1] > rank[order[k] + 1]
    )


class ExamplesTest(unittest.TestCase):
    def test_is_order(self):
        told = [is_order((1, 0)), order_error((0, 0)), order_error((0, 2)), order_error(())]
        self.assertEqual(repr(told), "[True, (1, 'place'), (1, 'place'), (None, 'order')]")

    def test_ranks_of(self):
        told = [ranks_of((2, 0, 1)), strict_steps((2, 0, 1)), strict_steps((5, 3, 1, 0, 4, 2)), strict_steps((0, 1, 2))]
        self.assertEqual(repr(told), "[(1, 2, 0), (2,), (3, 4), (2,)]")

    def test_fewest_letters(self):
        told = [least_word((5, 3, 1, 0, 4, 2)), fewest_letters((0, 1, 2)), least_word((0, 1, 2)), least_word((2, 1, 0))]
        self.assertEqual(repr(told), "['bacaca', 2, 'aab', 'aaa']")

    def test_find_difference(self):
        told = [find_difference('banana', 'bacaca'), find_difference('aab', 'abb'), find_difference('aab', 'aba')]
        self.assertEqual(repr(told), "[None, (1, 2), (0, 2)]")

    def test_shrunk(self):
        told = [shrunk((5, 3, 1, 0, 4, 2)), grown((4, 2, 0, 3, 1), 3)]
        self.assertEqual(repr(told), "[(4, 2, 0, 3, 1), (5, 3, 1, 0, 4, 2)]")


class IsOrderTest(unittest.TestCase):
    def check(self, value, error):
        with self.subTest(value=value):
            self.assertEqual(order_error(value), error)
            self.assertIs(is_order(value), error is None)
            self.assertEqual(order_error(value), error)

    def test_all_short_tuples(self):
        for size in range(1, 5):
            for items in itertools.product(range(-1, size + 1), repeat=size):
                wrong = [
                    at for at, item in enumerate(items)
                    if not 0 <= item < size or item in items[:at]
                ]
                self.check(items, (wrong[0], "place") if wrong else None)

    def test_lengths(self):
        self.check((), (None, "order"))
        self.check((0,), None)
        self.check((1,), (0, "place"))
        self.check(tuple(range(24)), None)
        self.check(tuple(range(24))[::-1], None)
        self.check(tuple(range(25)), (None, "order"))
        self.check((None,) * 25, (None, "order"))

    def test_long_orders(self):
        for order in long_orders():
            self.check(order, None)
            last = len(order) - 1
            self.check(order[:-1] + (order[0],), (last, "place"))
            self.check(order[:-1] + (len(order),), (last, "place"))
            self.check((-1,) + order[1:], (0, "place"))

    def test_bools(self):
        self.check((False,), (0, "place"))
        self.check((True, 0), (0, "place"))
        self.check((1, False), (1, "place"))
        self.check((0, True, 2), (1, "place"))
        self.check((False, 0), (0, "place"))

    def test_strange_items(self):
        for item in STRANGE + ("a", (0, 1), 2, [1], 10 ** 59):
            self.check((item, 0), (0, "place"))
            self.check((0, item), (1, "place"))

    def test_the_first_wrong_item_is_told(self):
        self.check((0, 0, None), (1, "place"))
        self.check((0, 5, 0), (1, "place"))
        self.check((2, 1, 1), (2, "place"))
        self.check((2, None, 2), (1, "place"))

    def test_other_values(self):
        for value in STRANGE:
            if not isinstance(value, tuple):
                self.check(value, (None, "order"))
        for value in ([1, 0], {"0": 0}, "01", 0, 1, {0: 0}):
            self.check(value, (None, "order"))

    def test_arguments_stay(self):
        value = (0, [1, {"a": 2}])
        self.check(value, (1, "place"))
        self.assertEqual(value, (0, [1, {"a": 2}]))


class StepsTest(unittest.TestCase):
    def check(self, order):
        ranks = ranks_of(order)
        steps = strict_steps(order)
        self.assertIs(type(ranks), tuple)
        self.assertIs(type(steps), tuple)
        self.assertEqual(ranks, tuple(order.index(place) for place in range(len(order))))
        self.assertEqual(steps, slow_steps(order), order)
        self.assertEqual(fewest_letters(order), len(steps) + 1)
        self.assertEqual((ranks_of(order), strict_steps(order)), (ranks, steps))

    def test_short_orders(self):
        for order in all_orders(6):
            self.check(order)

    def test_long_orders(self):
        for order in long_orders():
            self.check(order)

    def test_one_place(self):
        self.assertEqual((ranks_of((0,)), strict_steps((0,)), fewest_letters((0,))), ((0,), (), 1))

    def test_words_of_an_order(self):
        """A word has an order exactly if its letters never fall along it and rise at its strict steps."""
        for size, letters in ((1, "abc"), (2, "abc"), (3, "abcd"), (4, "abc")):
            for order in itertools.permutations(range(size)):
                steps = slow_steps(order)
                for letters_of_word in itertools.product(letters, repeat=size):
                    word = "".join(letters_of_word)
                    along = [word[place] for place in order]
                    never_falls = along == sorted(along)
                    rises = all(along[k - 1] < along[k] for k in strict_steps(order))
                    self.assertEqual(slow_order(word) == order, never_falls and rises)
                self.assertEqual(strict_steps(order), steps)


class LeastWordTest(unittest.TestCase):
    def check(self, order):
        word = least_word(order)
        self.assertTrue(is_word(word), order)
        self.assertEqual(tail_order(word), order)
        self.assertEqual(slow_order(word), order)
        self.assertEqual(len(set(word)), fewest_letters(order))
        self.assertEqual("".join(sorted(set(word))), ALPHABET[:fewest_letters(order)])
        self.assertEqual(least_word(order), word)

    def test_short_orders(self):
        for order in all_orders(6):
            self.check(order)

    def test_long_orders(self):
        for order in long_orders():
            self.check(order)

    def test_most_letters(self):
        """The order of 24 places that needs 24 letters."""
        word = "".join(ALPHABET[11 - k] + ALPHABET[12 + k] for k in range(12))
        order = slow_order(word)
        self.assertEqual(strict_steps(order), tuple(range(1, 24)))
        self.assertEqual(fewest_letters(order), 24)
        self.assertEqual(least_word(order), word)

    def test_different_orders_have_different_least_words(self):
        orders = list(all_orders(6))
        self.assertEqual(len({least_word(order) for order in orders}), len(orders))

    def test_no_word_has_a_smaller_letter(self):
        for size, letters in ((1, "abc"), (2, "abc"), (3, "abcd"), (4, "abcde"), (5, "abcde")):
            words_of = {}
            for word in itertools.product(letters, repeat=size):
                words_of.setdefault(slow_order("".join(word)), []).append(word)
            for order in itertools.permutations(range(size)):
                words = words_of[order]
                least = least_word(order)
                self.assertIn(tuple(least), words)
                for place in range(size):
                    self.assertEqual(least[place], min(word[place] for word in words))
                self.assertEqual(fewest_letters(order), min(len(set(word)) for word in words))

    def test_words_are_not_less_than_the_least_word(self):
        for word in long_words():
            least = least_word(slow_order(word))
            self.assertTrue(all(low <= letter for low, letter in zip(least, word)), word)


class FindDifferenceTest(unittest.TestCase):
    def slow_difference(self, one, other):
        for first, second in itertools.combinations(range(len(one)), 2):
            if slow_less(one, first, second) != slow_less(other, first, second):
                return (first, second)
        return None

    def check(self, one, other):
        told = find_difference(one, other)
        self.assertEqual(told, self.slow_difference(one, other), (one, other))
        self.assertEqual(told is None, slow_order(one) == slow_order(other))
        self.assertEqual(find_difference(one, other), told)

    def test_short_words(self):
        words = list(short_words("ab", 5)) + list(short_words("abc", 3))
        for one in words:
            for other in words:
                if len(one) == len(other):
                    self.check(one, other)

    def test_long_words(self):
        words = long_words()
        for one, other in zip(words, words[1:]):
            if len(one) == len(other):
                self.check(one, other)
                self.check(other, one)

    def test_same_order(self):
        for word in long_words():
            self.assertIsNone(find_difference(word, least_word(slow_order(word))))

    def test_late_difference(self):
        self.assertEqual(find_difference("zyxwvutsrqponmlkjihgfecd", "zyxwvutsrqponmlkjihgfedc"), (22, 23))

    def test_other_lengths(self):
        for one, other in (("a", "ab"), ("ab", "a"), ("a" * 24, "a" * 23), ("banana", "banan")):
            with self.subTest(one=one, other=other), self.assertRaises(NotAlike) as caught:
                find_difference(one, other)
            self.assertEqual(caught.exception.index, 1)
            self.assertIs(type(caught.exception.index), int)


class GrownTest(unittest.TestCase):
    def test_there_and_back(self):
        for order in list(all_orders(5)) + [one for one in long_orders() if len(one) < 24]:
            for index in range(len(order) + 1):
                longer = grown(order, index)
                self.assertIs(type(longer), tuple)
                self.assertIsNone(order_error(longer))
                self.assertEqual(longer.index(0), index)
                self.assertEqual(shrunk(longer), order)
                self.assertEqual(grown(order, index), longer)

    def test_back_and_there(self):
        for order in list(all_orders(6)) + long_orders():
            if len(order) > 1:
                shorter = shrunk(order)
                self.assertIs(type(shorter), tuple)
                self.assertIsNone(order_error(shorter))
                self.assertEqual(grown(shorter, order.index(0)), order)
                self.assertEqual(shrunk(order), shorter)

    def test_every_longer_order_is_grown_once(self):
        for size in range(1, 6):
            longer = [
                grown(order, index)
                for order in itertools.permutations(range(size))
                for index in range(size + 1)
            ]
            self.assertEqual(sorted(longer), sorted(itertools.permutations(range(size + 1))))

    def test_orders_of_words(self):
        for word in long_words():
            if len(word) > 1:
                self.assertEqual(shrunk(slow_order(word)), slow_order(word[1:]))
                order = slow_order(word)
                self.assertEqual(grown(slow_order(word[1:]), order.index(0)), order)

    def refused(self, order, index):
        for again in range(2):
            with self.subTest(order=order, index=index), self.assertRaises(NoIndex) as caught:
                grown(order, index)
            self.assertIs(caught.exception.value, index)

    def test_values_that_are_no_index(self):
        for order in ((0,), (1, 0), (2, 0, 1), tuple(range(24))):
            for index in STRANGE + (len(order) + 1, len(order) + 2, -len(order)):
                self.refused(order, index)

    def test_too_long(self):
        order = tuple(range(24))
        for index in range(25):
            with self.subTest(index=index), self.assertRaises(TooLong) as caught:
                grown(order, index)
            self.assertEqual(caught.exception.limit, 24)
        self.assertEqual(len(grown(tuple(range(23)), 23)), 24)

    def test_arguments_stay(self):
        index = [0, {"a": [1]}]
        self.refused((1, 0), index)
        self.assertEqual(index, [0, {"a": [1]}])


if __name__ == "__main__":
    unittest.main()
