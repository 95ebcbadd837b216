import random
import unittest

from tailranks.errors import NoIndex, NoPlace
from tailranks.far import count_places, far_before, far_letter, far_place, far_rank, place_at
from tailranks.words import comes_before, tail_order, tail_ranks
from tests.samples import ALPHABET, no_indexes, short_words

MOST = 10 ** 12
BLOCKS = (
    "a", "ab", "ba", "aa", "aab", "aba", "baa", "abab", "abaab", "bababa", "zyx", "banana",
    "aaaaaaaaaaaaaaaaaaaaaaab", "baaaaaaaaaaaaaaaaaaaaaaa", "a" * 24, "ab" * 12, "aab" * 8,
    "abacabadabacabaeabacabad", ALPHABET[:24], ALPHABET[:23:-1] + ALPHABET[:22],
)
PATTERNS = ("a", "b", "aa", "ab", "ba", "aba", "bab", "baab", "abaab", "nana", "ananab", "z", "q")


def slow_places(text, pattern):
    """Also the places that overlap."""
    return [place for place in range(len(text)) if text[place:place + len(pattern)] == pattern]


def patterns_for(block):
    """Parts of the block that goes on, shorter and longer than the block, and other patterns."""
    source = random.Random(block)
    text = block * 30
    patterns = set(PATTERNS)
    for k in range(12):
        start = source.randrange(len(block))
        patterns.add(text[start:start + source.randrange(1, 25)])
    patterns.add(text[:24])
    patterns.add(text[:23] + "q")
    return sorted(patterns)


def slow_before(block, times, one, other):
    """Letter by letter, as far as tails that do not go on alike can agree."""
    length = len(block) * times
    for step in range(2 * len(block)):
        left = block[(one + step) % len(block)] if one + step < length else ""
        right = block[(other + step) % len(block)] if other + step < length else ""
        if left != right:
            return left < right
    return one > other


def some_places(block, times):
    """Both ends of a far word, and places between."""
    source = random.Random(block)
    length = len(block) * times
    ends = list(range(min(length, 2 * len(block)))) + list(range(max(0, length - 2 * len(block)), length))
    middle = length // 2
    between = [middle, middle - len(block), middle + len(block)] + [source.randrange(length) for k in range(6)]
    return sorted(set(ends + [place for place in between if 0 <= place < length]))


class ExamplesTest(unittest.TestCase):
    def test_far_letter(self):
        told = [far_letter('ab', 10 ** 12, 7), far_before('ab', 10 ** 12, 0, 2), far_before('ab', 10 ** 12, 2, 0)]
        self.assertEqual(repr(told), "['b', False, True]")

    def test_far_rank(self):
        told = [far_rank('ab', 10 ** 12, 0), far_rank('ab', 10 ** 12, 2 * 10 ** 12 - 1), far_place('ab', 10 ** 12, 0)]
        self.assertEqual(repr(told), "[999999999999, 1000000000000, 1999999999998]")

    def test_count_places(self):
        told = [count_places('ab', 10 ** 12, 'ba'), place_at('ab', 10 ** 12, 'ba', 5)]
        self.assertEqual(repr(told), "[999999999999, 11]")


class WrittenOutTest(unittest.TestCase):
    """For few times: the same as for the word that is written out."""

    def check_order(self, block, times):
        text = block * times
        order = sorted(range(len(text)), key=lambda place: text[place:])
        for again in range(2):
            self.assertEqual([far_letter(block, times, place) for place in range(len(text))], list(text))
            self.assertEqual([far_place(block, times, rank) for rank in range(len(text))], order, (block, times))
            ranks = [far_rank(block, times, place) for place in range(len(text))]
            self.assertEqual(ranks, [order.index(place) for place in range(len(text))], (block, times))

    def check_pairs(self, block, times):
        text = block * times
        for one in range(len(text)):
            for other in range(len(text)):
                told = far_before(block, times, one, other)
                self.assertIs(told, text[one:] < text[other:], (block, times, one, other))

    def check_pattern(self, block, times, pattern):
        places = slow_places(block * times, pattern)
        for again in range(2):
            self.assertEqual(count_places(block, times, pattern), len(places), (block, times, pattern))
        self.assertEqual([place_at(block, times, pattern, at) for at in range(len(places))], places)

    def test_all_short_blocks(self):
        for block in list(short_words("ab", 6)) + list(short_words("abc", 4)):
            for times in (1, 2, 3, 4):
                self.check_order(block, times)

    def test_other_blocks(self):
        for block in BLOCKS:
            for times in (1, 2, 3, 5):
                self.check_order(block, times)

    def test_all_pairs(self):
        for block in list(short_words("ab", 4)) + list(BLOCKS):
            for times in (1, 2, 3):
                self.check_pairs(block, times)

    def test_short_patterns(self):
        for block in list(short_words("ab", 4)) + list(short_words("abc", 3)):
            for times in (1, 2, 3, 4):
                for pattern in short_words("ab", 6):
                    self.check_pattern(block, times, pattern)

    def test_long_patterns(self):
        for block in BLOCKS:
            for times in (1, 2, 3, 7):
                for pattern in patterns_for(block):
                    self.check_pattern(block, times, pattern)

    def test_words(self):
        """The functions on words say the same where the far word is a word."""
        for block, times in (("banana", 4), ("ab", 12), ("aab", 5), ("a", 24), (ALPHABET[:24], 1), ("z", 1)):
            word = block * times
            ranks = range(len(word))
            self.assertEqual(tuple(far_place(block, times, rank) for rank in ranks), tail_order(word))
            self.assertEqual(tuple(far_rank(block, times, place) for place in ranks), tail_ranks(word))
            for one in ranks:
                for other in ranks:
                    self.assertEqual(far_before(block, times, one, other), comes_before(word, one, other))

    def test_the_same_far_word(self):
        """A block of several equal parts is no other far word."""
        for block, many in (("ab", 3), ("aab", 8), ("a", 24), ("ba", 12)):
            for times in (1, 2, MOST // 24):
                for place in some_places(block * many, times):
                    self.assertEqual(far_rank(block * many, times, place), far_rank(block, many * times, place))
                    self.assertEqual(far_place(block * many, times, place), far_place(block, many * times, place))
                    self.assertEqual(
                        place_at(block * many, times, block[0], place // len(block)),
                        place_at(block, many * times, block[0], place // len(block)),
                    )


class MostTimesTest(unittest.TestCase):
    def grown(self, few, more, times):
        """What a number grows to at so many times, if few and more are the numbers at 4 and 5 times."""
        return few + (more - few) * (times - 4)

    def test_letters(self):
        for block in BLOCKS:
            for place in some_places(block, MOST):
                for again in range(2):
                    self.assertEqual(far_letter(block, MOST, place), block[place % len(block)])
            self.assertEqual(far_letter(block, MOST, len(block) * MOST - 1), block[-1])

    def test_comparisons(self):
        for block in BLOCKS:
            places = some_places(block, MOST)[::3]
            for one in places:
                for other in places:
                    told = far_before(block, MOST, one, other)
                    self.assertIs(told, slow_before(block, MOST, one, other), (block, one, other))
                    self.assertIs(far_before(block, MOST, one, other), told)

    def test_same_place_of_the_block(self):
        for block in BLOCKS:
            for place in range(len(block)):
                last = place + len(block) * (MOST - 1)
                middle = place + len(block) * (MOST // 2)
                self.assertIs(far_before(block, MOST, last, place), True)
                self.assertIs(far_before(block, MOST, place, last), False)
                self.assertIs(far_before(block, MOST, middle, place), True)
                self.assertIs(far_before(block, MOST, place, middle), False)
                self.assertIs(far_before(block, MOST, middle + len(block), middle), True)
                self.assertIs(far_before(block, MOST, place, place), False)

    def test_ranks_from_those_of_few_times(self):
        """Counted from its end of the far word, a place has a rank that grows evenly with the times."""
        for block in BLOCKS:
            size = len(block)
            ranks = []
            for times in (4, 5):
                text = block * times
                order = sorted(range(len(text)), key=lambda place: text[place:])
                ranks.append({place: rank for rank, place in enumerate(order)})
            for place in range(2 * size):
                rank = self.grown(ranks[0][place], ranks[1][place], MOST)
                self.assertEqual(far_rank(block, MOST, place), rank, (block, place))
                self.assertEqual(far_place(block, MOST, rank), place, (block, place))
            for back in range(1, 2 * size + 1):
                rank = self.grown(ranks[0][4 * size - back], ranks[1][5 * size - back], MOST)
                self.assertEqual(far_rank(block, MOST, MOST * size - back), rank, (block, back))
                self.assertEqual(far_place(block, MOST, rank), MOST * size - back, (block, back))

    def test_ranks_there_and_back(self):
        for block in BLOCKS:
            for times in (MOST, MOST - 1, 999983):
                for value in some_places(block, times):
                    self.assertEqual(far_place(block, times, far_rank(block, times, value)), value)
                    self.assertEqual(far_rank(block, times, far_place(block, times, value)), value)

    def test_neighbours(self):
        for block in BLOCKS:
            for rank in some_places(block, MOST)[1:]:
                low, high = far_place(block, MOST, rank - 1), far_place(block, MOST, rank)
                self.assertTrue(slow_before(block, MOST, low, high), (block, rank))
                self.assertTrue(far_before(block, MOST, low, high))

    def test_patterns(self):
        for block in BLOCKS:
            for pattern in patterns_for(block):
                # 30 blocks are longer than every pattern, so from there on each block adds as many places.
                few = len(slow_places(block * 30, pattern))
                more = len(slow_places(block * 31, pattern))
                count = few + (more - few) * (MOST - 30)
                for again in range(2):
                    self.assertEqual(count_places(block, MOST, pattern), count, (block, pattern))
                if count:
                    self.check_places(block, pattern, count)

    def check_places(self, block, pattern, count):
        first = slow_places(block * 30, pattern)
        self.assertEqual([place_at(block, MOST, pattern, at) for at in range(len(first))], first)
        ahead = len(block) * (MOST - 30)
        last = [ahead + place for place in first]
        told = [place_at(block, MOST, pattern, count - len(last) + at) for at in range(len(last))]
        self.assertEqual(told, last, (block, pattern))
        for index in (count // 2, count // 3):
            self.assertLess(place_at(block, MOST, pattern, index - 1), place_at(block, MOST, pattern, index))
            self.assertEqual((block * 30)[place_at(block, MOST, pattern, index) % len(block):][:len(pattern)], pattern)

    def test_patterns_longer_than_the_block(self):
        self.assertEqual(count_places("ab", MOST, "ab" * 12), MOST - 11)
        self.assertEqual(count_places("ab", MOST, "ba" * 12), MOST - 12)
        self.assertEqual(count_places("ab", MOST, "ab" * 11 + "aa"), 0)
        self.assertEqual(place_at("ab", MOST, "ab" * 12, MOST - 12), 2 * MOST - 24)

    def test_patterns_longer_than_the_far_word(self):
        for block, times, pattern in (("a", 1, "aa"), ("ab", 3, "ababababa"), ("a", 23, "a" * 24), ("b", 1, "a" * 24)):
            self.assertEqual(count_places(block, times, pattern), 0)
            for index in (0, 1, -1, None):
                with self.assertRaises(NoIndex) as caught:
                    place_at(block, times, pattern, index)
                self.assertIs(caught.exception.value, index)
        self.assertEqual(count_places("a", 24, "a" * 24), 1)
        self.assertEqual(count_places("ab", 12, "ab" * 12), 1)
        self.assertEqual(count_places("ab", 12, "ba" * 12), 0)


class RefusedTest(unittest.TestCase):
    def refused(self, error, value, function, *arguments):
        for again in range(2):
            with self.subTest(function=function.__name__, arguments=arguments), self.assertRaises(error) as caught:
                function(*arguments)
            self.assertIs(caught.exception.value, value)

    def test_values_that_are_no_places(self):
        for block, times in (("a", 1), ("ab", 3), ("banana", MOST), (ALPHABET[:24], MOST)):
            for value in no_indexes(len(block) * times):
                self.refused(NoPlace, value, far_letter, block, times, value)
                self.refused(NoPlace, value, far_rank, block, times, value)
                self.refused(NoPlace, value, far_before, block, times, value, 0)
                self.refused(NoPlace, value, far_before, block, times, 0, value)

    def test_the_first_value_is_told(self):
        one, other = [1], [1]
        self.refused(NoPlace, one, far_before, "ab", MOST, one, other)
        self.refused(NoPlace, None, far_before, "ab", MOST, None, 2 * MOST)

    def test_values_that_are_no_ranks(self):
        for block, times in (("a", 1), ("ab", 3), ("banana", MOST), (ALPHABET[:24], MOST)):
            for value in no_indexes(len(block) * times):
                self.refused(NoIndex, value, far_place, block, times, value)

    def test_values_that_are_no_indexes_of_places(self):
        cases = (("a", 1, "a"), ("ab", 3, "ba"), ("banana", MOST, "nab"), ("ab", MOST, "c"), ("ab", 1, "aba"))
        for block, times, pattern in cases:
            for value in no_indexes(count_places(block, times, pattern)):
                self.refused(NoIndex, value, place_at, block, times, pattern, value)

    def test_arguments_stay(self):
        value = [0, {"a": [1]}]
        self.refused(NoPlace, value, far_letter, "ab", 2, value)
        self.refused(NoPlace, value, far_before, "ab", 2, 0, value)
        self.refused(NoPlace, value, far_rank, "ab", 2, value)
        self.refused(NoIndex, value, far_place, "ab", 2, value)
        self.refused(NoIndex, value, place_at, "ab", 2, "a", value)
        self.assertEqual(value, [0, {"a": [1]}])


class BeyondTest(unittest.TestCase):
    """Somewhat beyond the limits there is no error either."""

    def test_more_letters_and_times(self):
        for block in (ALPHABET + "ab", "ab" * 15):
            for times in (3, 10 ** 13):
                for value in some_places(block, times):
                    self.assertEqual(far_letter(block, times, value), block[value % len(block)])
                    self.assertEqual(far_rank(block, times, far_place(block, times, value)), value)
            self.assertEqual(count_places(block, 3, "ab" * 14), len(slow_places(block * 3, "ab" * 14)))


if __name__ == "__main__":
    unittest.main()
