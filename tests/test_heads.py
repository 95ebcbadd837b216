import inspect
import itertools
import unittest

from tailranks.errors import NoIndex, NoPlace
from tailranks.heads import (
    common_length,
    count_parts,
    each_part,
    heads_of,
    longest_twice,
    part_at,
    part_index,
    rebuilt,
)
from tests.samples import ALPHABET, STRANGE, long_orders, long_words, no_indexes, short_words, slow_order


def slow_common(word, one, other):
    length = 0
    while one + length < len(word) and other + length < len(word) and word[one + length] == word[other + length]:
        length += 1
    return length


def slow_heads(word):
    order = slow_order(word)
    return tuple(slow_common(word, one, other) for one, other in zip(order, order[1:]))


def slow_parts(word):
    return sorted({word[low:high] for low in range(len(word)) for high in range(low + 1, len(word) + 1)})


def some_word_has(order, heads):
    """Whether these integers are the heads of a word with the order: each follows from those one place on."""
    rank = {place: index for index, place in enumerate(order)}
    for k, head in enumerate(heads):
        one, other = order[k] + 1, order[k + 1] + 1
        if head < 0:
            return False
        if head > 0:
            if other == len(order):
                return False
            if one == len(order):
                rest = 0
            elif rank[one] > rank[other]:
                return False
            else:
                rest = min(heads[rank[one]:rank[other]])
            if head != rest + 1:
                return False
    return True


class ExamplesTest(unittest.TestCase):
    def test_common_length(self):
        told = [common_length('banana', 1, 3), common_length('banana', 0, 1), common_length('banana', 2, 2)]
        self.assertEqual(repr(told), "[3, 0, 4]")

    def test_heads_of(self):
        self.assertEqual(repr([heads_of('banana'), heads_of('a')]), "[(1, 3, 0, 0, 2), ()]")

    def test_rebuilt(self):
        told = [rebuilt((5, 3, 1, 0, 4, 2), (1, 3, 0, 0, 2)), rebuilt((5, 3, 1, 0, 4, 2), (1, 2, 0, 0, 2)), rebuilt((1, 0), (0,))]
        self.assertEqual(repr(told), "['bacaca', None, 'ba']")

    def test_count_parts(self):
        told = [count_parts('banana'), part_at('banana', 0), part_at('banana', 4), part_index('banana', 'nan'), part_index('banana', 'ab')]
        self.assertEqual(repr(told), "[15, 'a', 'anana', 13, None]")

    def test_each_part(self):
        self.assertEqual(repr(list(each_part('aba'))), "['a', 'ab', 'aba', 'b', 'ba']")

    def test_longest_twice(self):
        self.assertEqual(repr([longest_twice('banana'), longest_twice('abc')]), "[('ana', (1, 3)), None]")


class CommonLengthTest(unittest.TestCase):
    def test_all_pairs(self):
        for word in list(short_words("ab", 5)) + long_words():
            for one in range(len(word)):
                for other in range(len(word)):
                    told = common_length(word, one, other)
                    self.assertEqual(told, slow_common(word, one, other), (word, one, other))
                    self.assertEqual(common_length(word, one, other), told)
                self.assertEqual(common_length(word, one, one), len(word) - one)

    def test_least_head_between(self):
        for word in long_words():
            order, heads = slow_order(word), heads_of(word)
            for i, j in itertools.combinations(range(len(word)), 2):
                self.assertEqual(common_length(word, order[i], order[j]), min(heads[i:j]))

    def refused(self, value, word, one, other):
        for again in range(2):
            with self.subTest(word=word, one=one, other=other), self.assertRaises(NoPlace) as caught:
                common_length(word, one, other)
            self.assertIs(caught.exception.value, value)

    def test_values_that_are_no_places(self):
        for value in no_indexes(6):
            self.refused(value, "banana", value, 0)
            self.refused(value, "banana", 5, value)
        for value in (1, False, True, None, "x"):
            self.refused(value, "x", 0, value)

    def test_the_first_value_is_told(self):
        one, other = [1], [1]
        self.refused(one, "banana", one, other)
        self.refused(6, "banana", 6, None)
        self.refused(None, "banana", None, 6)

    def test_arguments_stay(self):
        value = [0, {"a": [1]}]
        self.refused(value, "ab", value, 0)
        self.assertEqual(value, [0, {"a": [1]}])


class HeadsOfTest(unittest.TestCase):
    def check(self, word):
        heads = heads_of(word)
        self.assertIs(type(heads), tuple)
        self.assertEqual(heads, slow_heads(word), word)
        self.assertEqual(len(heads), len(word) - 1)
        self.assertEqual(heads_of(word), heads)

    def test_short_words(self):
        for word in itertools.chain(short_words("ab", 7), short_words("abc", 5)):
            self.check(word)

    def test_long_words(self):
        for word in long_words():
            self.check(word)

    def test_one_letter(self):
        for size in range(1, 25):
            self.assertEqual(heads_of("q" * size), tuple(range(1, size)))

    def test_different_letters(self):
        self.assertEqual(heads_of(ALPHABET[:24]), (0,) * 23)


class RebuiltTest(unittest.TestCase):
    def check(self, order, value, word):
        with self.subTest(order=order, value=value):
            self.assertEqual(rebuilt(order, value), word)
            self.assertEqual(rebuilt(order, value), word)

    def test_all_heads_of_few_places(self):
        """Against all words of as many letters as places, also for tuples that are no heads."""
        for size in range(1, 5):
            least = {}
            for letters in itertools.product(ALPHABET[:size], repeat=size):
                word = "".join(letters)
                key = (slow_order(word), slow_heads(word))
                before = least.get(key, word)
                least[key] = "".join(min(pair) for pair in zip(before, word))
            for order in itertools.permutations(range(size)):
                for heads in itertools.product(range(-1, size + 1), repeat=size - 1):
                    self.check(order, heads, least.get((order, heads)))

    def test_all_words_of_5_and_6_places(self):
        for word in itertools.chain(short_words("abc", 6), short_words("abcde", 5)):
            order, heads = slow_order(word), slow_heads(word)
            told = rebuilt(order, heads)
            self.assertEqual((slow_order(told), slow_heads(told)), (order, heads))
            self.assertEqual(set(told), set(ALPHABET[:len(set(word))]))

    def test_no_letter_can_be_smaller(self):
        """The letters keep their order, without a gap below or between them."""
        for word in long_words():
            told = rebuilt(slow_order(word), slow_heads(word))
            letters = sorted(set(word))
            self.assertEqual(told, "".join(ALPHABET[letters.index(letter)] for letter in word), word)
            self.assertEqual(rebuilt(slow_order(word), slow_heads(word)), told)

    def test_one_number_changed(self):
        nones = 0
        for word in long_words():
            order, heads = slow_order(word), slow_heads(word)
            for k, head in enumerate(heads):
                for number in (head - 1, head + 1, 0, 1, -1, len(word), len(word) + 1, 10 ** 59):
                    changed = heads[:k] + (number,) + heads[k + 1:]
                    told = rebuilt(order, changed)
                    self.assertEqual(told is not None, some_word_has(order, changed), (order, changed))
                    if told is None:
                        nones += 1
                    else:
                        self.assertEqual((slow_order(told), slow_heads(told)), (order, changed))
        self.assertGreater(nones, 1000)

    def test_one_other_value(self):
        for word in ("ab", "ba", "aa", "banana", "a" * 24, ALPHABET[:24]):
            order, heads = slow_order(word), slow_heads(word)
            for k, head in enumerate(heads):
                for value in STRANGE + (str(head), (head,), [head], bool(head)):
                    self.check(order, heads[:k] + (value,) + heads[k + 1:], None)

    def test_bools(self):
        self.check((1, 0), (True,), None)
        self.check((1, 0), (False,), None)
        self.check((1, 0), (1,), "aa")
        self.check((1, 0), (0,), "ba")
        self.check((0, 1), (1,), None)

    def test_other_kinds_and_lengths(self):
        for word in ["a", "ab", "ba"] + [one for one in long_words() if len(one) in (6, 24)]:
            order, heads = slow_order(word), slow_heads(word)
            for value in (list(heads), heads + (0,), heads + (1,), (0,) + heads, heads + heads + (0,), str(heads), (heads,)):
                self.check(order, value, None)
            if heads:
                self.check(order, heads[:-1], None)
                self.check(order, heads[1:], None)

    def test_strange_values(self):
        for order in ((0,), (1, 0), (2, 0, 1), tuple(range(24))):
            for value in STRANGE + ("banana", 0, (0,) * 30):
                self.check(order, value, "a" if (order, value) == ((0,), ()) else None)

    def test_one_place(self):
        self.check((0,), (), "a")
        self.check((0,), [], None)
        self.check((0,), (0,), None)

    def test_all_heads_zero(self):
        """Letters that are all different have every order."""
        for order in long_orders():
            told = rebuilt(order, (0,) * (len(order) - 1))
            self.assertEqual("".join(told[place] for place in order), ALPHABET[:len(order)])

    def test_arguments_stay(self):
        value = (1, [2, {"a": 3}])
        self.check((2, 1, 0), value, None)
        self.assertEqual(value, (1, [2, {"a": 3}]))


class PartsTest(unittest.TestCase):
    def check(self, word):
        parts = slow_parts(word)
        for again in range(2):
            self.assertEqual(count_parts(word), len(parts), word)
            self.assertEqual(list(each_part(word)), parts, word)
        self.assertEqual([part_at(word, at) for at in range(len(parts))], parts)
        self.assertEqual([part_index(word, part) for part in parts], list(range(len(parts))))

    def test_short_words(self):
        for word in itertools.chain(short_words("ab", 6), short_words("abc", 4)):
            self.check(word)

    def test_long_words(self):
        for word in long_words():
            self.check(word)

    def test_counts(self):
        self.assertEqual(count_parts("x"), 1)
        self.assertEqual(count_parts("x" * 24), 24)
        self.assertEqual(count_parts(ALPHABET[:24]), 300)

    def refused(self, word, index):
        for again in range(2):
            with self.subTest(word=word, index=index), self.assertRaises(NoIndex) as caught:
                part_at(word, index)
            self.assertIs(caught.exception.value, index)

    def test_values_that_are_no_index(self):
        for word in ("x", "banana", "x" * 24, ALPHABET[:24]):
            for index in no_indexes(len(slow_parts(word))):
                self.refused(word, index)

    def test_values_that_are_no_parts(self):
        for word in ("b", "banana", "b" * 24, ALPHABET[:24]):
            for value in STRANGE + (0, 1, word + "a", "q" + word, word + " ", word.upper(), (word,), [word], {word: word}, list(word)):
                with self.subTest(word=word, value=value):
                    self.assertIsNone(part_index(word, value))
                    self.assertIsNone(part_index(word, value))

    def test_all_short_texts(self):
        for word in ("abab", "aab", "ba", "banana"):
            parts = slow_parts(word)
            for text in short_words("abn", 5):
                self.assertEqual(part_index(word, text), parts.index(text) if text in parts else None)

    def test_each_part_is_a_generator(self):
        parts = each_part("banana")
        self.assertTrue(inspect.isgenerator(parts))
        self.assertEqual([next(parts), next(parts)], ["a", "an"])
        self.assertEqual(next(each_part("banana")), "a")

    def test_arguments_stay(self):
        value = ["a", {"a": [1]}]
        self.assertIsNone(part_index("a", value))
        self.refused("a", value)
        self.assertEqual(value, ["a", {"a": [1]}])


class LongestTwiceTest(unittest.TestCase):
    def slow_longest(self, word):
        rows = []
        for part in slow_parts(word):
            places = tuple(place for place in range(len(word)) if word[place:place + len(part)] == part)
            if len(places) > 1:
                rows.append((-len(part), part, places))
        return min(rows)[1:] if rows else None

    def check(self, word):
        told = longest_twice(word)
        self.assertEqual(told, self.slow_longest(word), word)
        if told is not None:
            self.assertEqual((type(told), type(told[1])), (tuple, tuple))
        self.assertEqual(longest_twice(word), told)

    def test_short_words(self):
        for word in itertools.chain(short_words("ab", 8), short_words("abc", 6)):
            self.check(word)

    def test_long_words(self):
        for word in long_words():
            self.check(word)

    def test_places_that_overlap(self):
        self.assertEqual(longest_twice("a" * 24), ("a" * 23, (0, 1)))
        self.assertEqual(longest_twice("aa"), ("a", (0, 1)))

    def test_the_least_one_of_equal_length(self):
        self.assertEqual(longest_twice("bcbcxabab"), ("ab", (5, 7)))
        self.assertEqual(longest_twice("babcabdab"), ("ab", (1, 4, 7)))

    def test_no_part_twice(self):
        self.assertIsNone(longest_twice("x"))
        self.assertIsNone(longest_twice(ALPHABET[:24]))


class BeyondTest(unittest.TestCase):
    """Somewhat beyond the limits there is no error either."""

    def test_more_places(self):
        for word in ("ab" * 14, "a" * 30, ALPHABET + "ab"):
            self.assertEqual(heads_of(word), slow_heads(word))
            self.assertEqual(list(each_part(word)), slow_parts(word))
            letters = sorted(set(word))
            least = "".join(ALPHABET[letters.index(letter)] for letter in word)
            self.assertEqual(rebuilt(slow_order(word), slow_heads(word)), least)

    def test_more_letters_than_there_are(self):
        self.assertEqual(rebuilt(tuple(range(26)), (0,) * 25), ALPHABET)
        self.assertIsNone(rebuilt(tuple(range(27)), (0,) * 26))


if __name__ == "__main__":
    unittest.main()
