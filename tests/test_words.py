import itertools
import unittest

from tailranks.errors import NoPlace, NotAlike, NoWords
from tailranks.words import agreed, comes_before, is_word, tail_order, tail_ranks, word_error
from tests.samples import ALPHABET, STRANGE, long_words, short_words, slow_less, slow_order


class ExamplesTest(unittest.TestCase):
    def test_is_word(self):
        told = [is_word('banana'), is_word(''), word_error('abC'), word_error(['a'])]
        self.assertEqual(repr(told), "[True, False, (2, 'letter'), (None, 'word')]")

    def test_tail_order(self):
        told = [tail_order('banana'), tail_ranks('banana'), tail_order('aab')]
        self.assertEqual(repr(told), "[(5, 3, 1, 0, 4, 2), (3, 2, 5, 1, 4, 0), (0, 1, 2)]")

    def test_comes_before(self):
        told = [comes_before('banana', 3, 1), comes_before('banana', 1, 3), comes_before('banana', 1, 1)]
        self.assertEqual(repr(told), "[True, False, False]")

    def test_agreed(self):
        told = [agreed('ab'), agreed('aab', 'aba')]
        self.assertEqual(repr(told), "[((0, 1),), ((0, 1),)]")


class IsWordTest(unittest.TestCase):
    def check(self, value, error):
        with self.subTest(value=value):
            self.assertEqual(word_error(value), error)
            self.assertIs(is_word(value), error is None)
            self.assertEqual(word_error(value), error)

    def test_lengths(self):
        self.check("", (None, "word"))
        self.check("q", None)
        self.check("q" * 23, None)
        self.check("q" * 24, None)
        self.check("q" * 25, (None, "word"))
        self.check("q" * 2000, (None, "word"))
        self.check("Q" * 25, (None, "word"))

    def test_each_letter(self):
        for letter in ALPHABET:
            self.check(letter, None)
        self.check(ALPHABET[:24], None)
        self.check(ALPHABET[2:], None)

    def test_each_other_character(self):
        others = [chr(code) for code in range(32, 127) if chr(code) not in ALPHABET] + ["\n"]
        self.assertEqual(len(others), 95 - 26 + 1)
        for other in others:
            self.check(other, (0, "letter"))
            self.check("ab" + other, (2, "letter"))
            self.check("a" * 23 + other, (23, "letter"))
            self.check("a" + other + "b" + other, (1, "letter"))

    def test_signs_beside_the_letters(self):
        self.check("a`", (1, "letter"))
        self.check("z{", (1, "letter"))
        self.check("word ", (4, "letter"))
        self.check(" word", (0, "letter"))
        self.check("word\n", (4, "letter"))

    def test_other_values(self):
        for value in STRANGE:
            if not isinstance(value, str):
                self.check(value, (None, "word"))
        for value in (("a",), ["a", "b"], {"a": "a"}, 0, 1, 24, ("banana",)):
            self.check(value, (None, "word"))


class TailOrderTest(unittest.TestCase):
    def check(self, word):
        order = tail_order(word)
        ranks = tail_ranks(word)
        self.assertIs(type(order), tuple)
        self.assertIs(type(ranks), tuple)
        self.assertEqual(order, slow_order(word), word)
        self.assertEqual(tuple(order[rank] for rank in ranks), tuple(range(len(word))), word)
        self.assertEqual((tail_order(word), tail_ranks(word)), (order, ranks))

    def test_short_words(self):
        for word in itertools.chain(short_words("ab", 8), short_words("abz", 5)):
            self.check(word)

    def test_long_words(self):
        words = long_words()
        self.assertEqual({len(word) for word in words}, set(range(1, 25)))
        for word in words:
            self.check(word)

    def test_one_letter(self):
        self.assertEqual((tail_order("x"), tail_ranks("x")), ((0,), (0,)))

    def test_a_beginning_is_less(self):
        self.assertEqual(tail_order("a" * 24), tuple(range(23, -1, -1)))


class ComesBeforeTest(unittest.TestCase):
    def test_all_pairs(self):
        for word in list(short_words("ab", 5)) + long_words():
            for one in range(len(word)):
                for other in range(len(word)):
                    told = comes_before(word, one, other)
                    self.assertIs(told, slow_less(word, one, other), (word, one, other))

    def refused(self, value, word, one, other):
        for again in range(2):
            with self.subTest(word=word, one=one, other=other), self.assertRaises(NoPlace) as caught:
                comes_before(word, one, other)
            self.assertIs(caught.exception.value, value)

    def test_values_that_are_no_places(self):
        for value in STRANGE + (6, 7, -6, "banana", {"b": 1}):
            self.refused(value, "banana", value, 0)
            self.refused(value, "banana", 5, value)

    def test_the_first_value_is_told(self):
        length = 10 ** 50
        self.refused(length, "banana", length, None)
        nothing = [1]
        self.refused(nothing, "banana", nothing, [1])

    def test_one_letter(self):
        self.assertIs(comes_before("x", 0, 0), False)
        self.refused(1, "x", 0, 1)
        self.refused(False, "x", 0, False)

    def test_arguments_stay(self):
        value = [0, {"a": [1]}]
        self.refused(value, "ab", value, 0)
        self.assertEqual(value, [0, {"a": [1]}])


class AgreedTest(unittest.TestCase):
    def slow_agreed(self, words):
        pairs = itertools.permutations(range(len(words[0])), 2)
        return tuple(pair for pair in pairs if all(slow_less(word, *pair) for word in words))

    def check(self, *words):
        told = agreed(*words)
        self.assertEqual(told, self.slow_agreed(words), words)
        self.assertIs(type(told), tuple)
        self.assertTrue(all(type(pair) is tuple for pair in told))
        self.assertEqual(list(told), sorted(set(told)))
        self.assertEqual(agreed(*words), told)

    def test_one_word(self):
        for word in long_words():
            self.check(word)
            self.assertEqual(len(agreed(word)), len(word) * (len(word) - 1) // 2)

    def test_two_words(self):
        words = list(short_words("ab", 4)) + list(short_words("abc", 3))
        for one in words:
            for other in words:
                if len(one) == len(other):
                    self.check(one, other)

    def test_several_words(self):
        words = long_words()
        for size in range(1, 25):
            alike = [word for word in words if len(word) == size]
            self.check(*alike[:3])
            self.check(*alike)
        self.check("banana", "bacaca", "banana")

    def test_nothing_agreed(self):
        self.assertEqual(agreed("x"), ())
        self.assertEqual(agreed("ab", "ba"), ())

    def test_no_words(self):
        with self.assertRaises(NoWords):
            agreed()

    def test_other_lengths(self):
        cases = (
            (1, ("ab", "abc")),
            (1, ("abc", "ab", "ab")),
            (2, ("ab", "ba", "a", "abc")),
            (3, ("a", "b", "c", "d" * 24)),
        )
        for index, words in cases:
            with self.subTest(words=words), self.assertRaises(NotAlike) as caught:
                agreed(*words)
            self.assertEqual(caught.exception.index, index)
            self.assertIs(type(caught.exception.index), int)


if __name__ == "__main__":
    unittest.main()
