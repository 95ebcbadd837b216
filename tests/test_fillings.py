import inspect
import itertools
import math
import random
import unittest

from tailranks.errors import NoIndex
from tailranks.fillings import count_fillings, count_orders, each_filling, filling_at, filling_index
from tailranks.orders import fewest_letters, least_word, strict_steps
from tests.samples import ALPHABET, all_orders, long_orders, long_words, no_indexes, slow_order


def slow_fillings(size, many):
    """All words of so many places and letters, by their orders, each list as the document sorts it."""
    words_of = {order: [] for order in itertools.permutations(range(size))}
    for letters in itertools.product(ALPHABET[:many], repeat=size):
        word = "".join(letters)
        words_of[slow_order(word)].append(word)
    for order, words in words_of.items():
        words.sort(key=lambda word: [word[place] for place in order])
    return words_of


def chosen(order, many):
    things = len(order) + many - 1 - len(strict_steps(order))
    return math.comb(things, len(order))


class ExamplesTest(unittest.TestCase):
    def test_count_fillings(self):
        told = [count_fillings((0, 1, 2), 1), count_fillings((0, 1, 2), 2), count_fillings((2, 1, 0), 2), count_fillings((0, 1, 2), 26)]
        self.assertEqual(repr(told), "[0, 1, 4, 2925]")

    def test_filling_at(self):
        told = [filling_at((2, 1, 0), 2, 0), filling_at((2, 1, 0), 2, 1), filling_index('bba', 2)]
        self.assertEqual(repr(told), "['aaa', 'baa', 2]")

    def test_filling_at_raises(self):
        with self.assertRaises(NoIndex) as caught:
            filling_at((0, 1, 2), 2, 1)
        self.assertEqual(repr(caught.exception.value), "1")

    def test_each_filling(self):
        self.assertEqual(repr(list(each_filling((2, 1, 0), 2))), "['aaa', 'baa', 'bba', 'bbb']")

    def test_count_orders(self):
        told = [count_orders(1, 0), [count_orders(3, 0), count_orders(3, 1), count_orders(3, 2)], count_orders(4, 4)]
        self.assertEqual(repr(told), "[1, [1, 4, 1], 0]")


class CountFillingsTest(unittest.TestCase):
    def check(self, order, many):
        told = count_fillings(order, many)
        self.assertEqual(told, chosen(order, many), (order, many))
        self.assertIs(type(told), int)
        self.assertEqual(told == 0, many < fewest_letters(order))
        self.assertEqual(count_fillings(order, many), told)

    def test_short_orders(self):
        for order in all_orders(5):
            for many in range(1, 27):
                self.check(order, many)

    def test_long_orders(self):
        for order in long_orders():
            for many in range(1, 27):
                self.check(order, many)

    def test_all_words(self):
        for size in range(1, 6):
            for many in range(1, 5):
                words_of = slow_fillings(size, many)
                for order, words in words_of.items():
                    self.assertEqual(count_fillings(order, many), len(words), (order, many))

    def test_every_word_is_a_filling_of_one_order(self):
        for size in range(1, 7):
            for many in (1, 2, 3, 5, 26):
                counts = [count_fillings(order, many) for order in itertools.permutations(range(size))]
                self.assertEqual(sum(counts), many ** size)

    def test_too_few_letters(self):
        word = "".join(ALPHABET[11 - k] + ALPHABET[12 + k] for k in range(12))
        order = slow_order(word)
        self.assertEqual([count_fillings(order, many) for many in (1, 22, 23)], [0, 0, 0])
        self.assertEqual([count_fillings(order, many) for many in (24, 25, 26)], [1, 25, 325])
        self.assertEqual(list(each_filling(order, 24)), [word])
        self.assertEqual(list(each_filling(order, 23)), [])

    def test_most_fillings(self):
        self.assertEqual(count_fillings(tuple(range(23, -1, -1)), 26), math.comb(49, 24))


class FillingsTest(unittest.TestCase):
    def test_all_fillings_of_few_places(self):
        for size, many in ((1, 1), (1, 26), (2, 5), (3, 4), (4, 1), (4, 2), (4, 4), (5, 3), (5, 4)):
            for order, words in slow_fillings(size, many).items():
                self.assertEqual(list(each_filling(order, many)), words, (order, many))
                self.assertEqual([filling_at(order, many, at) for at in range(len(words))], words)
                self.assertEqual([filling_index(word, many) for word in words], list(range(len(words))))

    def test_second_calls(self):
        order = (2, 4, 0, 3, 1)
        for again in range(2):
            self.assertEqual(filling_at(order, 4, 0), least_word(order))
            self.assertEqual(filling_index(least_word(order), 4), 0)
            self.assertEqual(list(each_filling(order, 4)), list(each_filling(order, 4)))

    def test_ends(self):
        for order in long_orders():
            for many in (fewest_letters(order), 26):
                self.assertEqual(filling_at(order, many, 0), least_word(order))
                rise = many - fewest_letters(order)
                highest = "".join(ALPHABET[ALPHABET.index(letter) + rise] for letter in least_word(order))
                self.assertEqual(filling_at(order, many, chosen(order, many) - 1), highest)
                self.assertEqual(filling_index(highest, many), chosen(order, many) - 1)

    def test_there_and_back(self):
        source = random.Random(3)
        for order in [one for one in long_orders() if len(one) in (7, 15, 24)]:
            for many in (fewest_letters(order), 20, 26):
                number = chosen(order, many)
                if number > 0:
                    indexes = sorted({0, number - 1, number // 2, number // 3, *[source.randrange(number) for k in range(5)]})
                    words = [filling_at(order, many, index) for index in indexes]
                    self.assertEqual([filling_index(word, many) for word in words], indexes)
                    for word in words:
                        self.assertEqual(slow_order(word), order)
                        self.assertLessEqual(set(word), set(ALPHABET[:many]))
                    along = [[word[place] for place in order] for word in words]
                    self.assertEqual(along, sorted(along))

    def test_back_and_there(self):
        for word in long_words():
            for many in (ALPHABET.index(max(word)) + 1, 26):
                index = filling_index(word, many)
                self.assertIs(type(index), int)
                self.assertEqual(filling_at(slow_order(word), many, index), word)
                self.assertEqual(filling_index(word, many), index)

    def test_neighbours_of_24_places(self):
        """filling_at gives the same as each_filling from the first one on."""
        for order in [one for one in long_orders() if len(one) == 24]:
            first = list(itertools.islice(each_filling(order, 26), 60))
            number = chosen(order, 26)
            self.assertEqual(first, [filling_at(order, 26, at) for at in range(min(60, number))])

    def refused(self, order, many, index):
        for again in range(2):
            with self.subTest(order=order, many=many, index=index), self.assertRaises(NoIndex) as caught:
                filling_at(order, many, index)
            self.assertIs(caught.exception.value, index)

    def test_values_that_are_no_index(self):
        for order, many in (((0,), 1), ((2, 1, 0), 2), ((0, 1, 2), 26), (tuple(range(23, -1, -1)), 26)):
            for index in no_indexes(chosen(order, many)):
                self.refused(order, many, index)

    def test_no_index_where_there_are_no_fillings(self):
        for index in (0, 1, -1, True, None):
            self.refused((0, 1, 2), 1, index)

    def test_arguments_stay(self):
        index = [0, {"a": [1]}]
        self.refused((1, 0), 3, index)
        self.assertEqual(index, [0, {"a": [1]}])


class EachFillingTest(unittest.TestCase):
    def test_is_a_generator(self):
        self.assertTrue(inspect.isgenerator(each_filling((0,), 1)))

    def test_no_fillings(self):
        self.assertEqual(list(each_filling((0, 1, 2), 1)), [])

    def test_left_early_and_begun_anew(self):
        order = tuple(range(23, -1, -1))
        for again in range(3):
            fillings = each_filling(order, 26)
            self.assertEqual([next(fillings), next(fillings)], ["a" * 24, "b" + "a" * 23])
        self.assertEqual(list(itertools.islice(each_filling(order, 26), 1)), ["a" * 24])

    def test_two_at_once(self):
        order = (2, 1, 0)
        one, other = each_filling(order, 3), each_filling(order, 3)
        rows = [(next(one), next(other)) for k in range(10)]
        self.assertEqual(rows, [(word, word) for word in each_filling(order, 3)])


class CountOrdersTest(unittest.TestCase):
    def test_all_orders(self):
        for size in range(1, 7):
            told = [0] * 42
            for order in itertools.permutations(range(size)):
                told[len(strict_steps(order))] += 1
            self.assertEqual([count_orders(size, steps) for steps in range(41)], told[:41])

    def test_sums(self):
        for n in range(1, 41):
            counts = [count_orders(n, steps) for steps in range(41)]
            self.assertEqual(sum(counts), math.factorial(n))
            self.assertEqual(counts[:n], counts[:n][::-1])
            self.assertEqual(counts[n:], [0] * (41 - n))
            self.assertTrue(all(count > 0 for count in counts[:n]))
            self.assertTrue(all(type(count) is int for count in counts))

    def test_words_are_counted(self):
        """The fillings of all orders are all words."""
        for n in (7, 24, 40):
            for many in range(1, 27):
                words = [count_orders(n, s) * math.comb(n + many - 1 - s, n) for s in range(n)]
                self.assertEqual(sum(words), many ** n)

    def test_40_places(self):
        self.assertEqual(count_orders(40, 0), 1)
        self.assertEqual(count_orders(40, 1), 2 ** 40 - 41)
        self.assertEqual(count_orders(40, 2), 3 ** 40 - 41 * 2 ** 40 + 40 * 41 // 2)
        self.assertEqual(count_orders(40, 39), 1)
        self.assertEqual(count_orders(40, 40), 0)
        self.assertEqual(count_orders(40, 1), count_orders(40, 1))


class BeyondTest(unittest.TestCase):
    """Somewhat beyond the limits there is no error either."""

    def test_more_letters_than_there_are(self):
        for order in ((0,), (2, 1, 0), (0, 1, 2)):
            self.assertEqual(count_fillings(order, 27), count_fillings(order, 26))
            self.assertEqual(list(each_filling(order, 30)), list(each_filling(order, 26)))
            last = count_fillings(order, 27) - 1
            self.assertEqual(filling_index(filling_at(order, 27, last), 27), last)

    def test_no_letters(self):
        for order in ((0,), (2, 1, 0), (0, 1, 2)):
            for many in (0, -1, -2):
                self.assertEqual((count_fillings(order, many), list(each_filling(order, many))), (0, []))

    def test_more_places(self):
        for order in (tuple(range(30)), tuple(range(30))[::-1]):
            number = chosen(order, 26)
            self.assertEqual(count_fillings(order, 26), number)
            for index in (0, number // 2, number - 1):
                self.assertEqual(filling_index(filling_at(order, 26, index), 26), index)
            self.assertEqual(next(each_filling(order, 26)), least_word(order))

    def test_more_orders(self):
        self.assertEqual(sum(count_orders(45, steps) for steps in range(50)), math.factorial(45))
        self.assertEqual([count_orders(3, -1), count_orders(45, 45), count_orders(45, 44)], [0, 0, 1])


if __name__ == "__main__":
    unittest.main()
