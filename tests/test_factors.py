import itertools
import unittest

from tailranks.factors import cut_holds, factor_places, factors, is_simple, least_turn, longest_simple
from tailranks.fillings import each_filling
from tailranks.orders import least_word
from tests.samples import (
    ALPHABET,
    STRANGE,
    all_orders,
    drawn_words,
    long_orders,
    long_words,
    short_words,
    slow_factors,
    slow_order,
    slow_simple,
)


def starts_of(parts):
    """The places at which parts that stand one after the other begin."""
    return tuple(itertools.accumulate([0] + [len(part) for part in parts[:-1]]))


def slow_longest(word):
    """The longest simple words at each place, by trying all ends."""
    many = len(word)
    return tuple(
        max(end - place for end in range(place + 1, many + 1) if slow_simple(word[place:end])) for place in range(many)
    )


def all_cuts(word):
    """All tuples of texts that are not empty and together are the word."""
    for size in range(len(word)):
        for inner in itertools.combinations(range(1, len(word)), size):
            ends = (0,) + inner + (len(word),)
            yield tuple(word[low:high] for low, high in zip(ends, ends[1:]))


class IsSimpleTest(unittest.TestCase):
    def check(self, word):
        told = is_simple(word)
        self.assertIs(told, slow_simple(word), word)
        self.assertIs(told, all(word < word[place:] for place in range(1, len(word))), word)
        self.assertIs(is_simple(word), told)

    def test_short_words(self):
        for word in itertools.chain(short_words("abc", 6), short_words("ab", 9), short_words("abcd", 4)):
            self.check(word)

    def test_long_words(self):
        for word in long_words() + drawn_words(400, 3):
            self.check(word)

    def test_edges(self):
        for letter in ALPHABET:
            self.assertIs(is_simple(letter), True)
            self.assertIs(is_simple(letter * 2), False)
        self.assertIs(is_simple("a" * 23 + "b"), True)
        self.assertIs(is_simple("a" * 24), False)
        self.assertIs(is_simple("ab" * 12), False)
        self.assertIs(is_simple(ALPHABET[:24]), True)
        self.assertIs(is_simple("abaabb"), False)
        self.assertIs(is_simple("aabab"), True)


class FactorsTest(unittest.TestCase):
    def check(self, word):
        told = factors(word)
        self.assertIs(type(told), tuple)
        self.assertEqual(told, slow_factors(word), word)
        self.assertEqual("".join(told), word)
        self.assertEqual(list(told), sorted(told, reverse=True))
        self.assertTrue(all(slow_simple(part) for part in told))
        places = factor_places(slow_order(word))
        self.assertIs(type(places), tuple)
        self.assertEqual(places, starts_of(told), word)
        self.assertEqual((factors(word), factor_places(slow_order(word))), (told, places))

    def test_short_words(self):
        for word in itertools.chain(short_words("abc", 6), short_words("ab", 8)):
            self.check(word)

    def test_long_words(self):
        for word in long_words() + drawn_words(300, 4):
            self.check(word)

    def test_edges(self):
        self.assertEqual(factors("a" * 24), ("a",) * 24)
        self.assertEqual(factors("a" * 23 + "b"), ("a" * 23 + "b",))
        self.assertEqual(factors("b" + "a" * 23), ("b",) + ("a",) * 23)
        self.assertEqual(factors("q"), ("q",))
        self.assertEqual(factors("ab" * 12), ("ab",) * 12)

    def test_orders_alone(self):
        """A factor begins at each place that comes before all earlier ones."""
        for order in itertools.chain(all_orders(6), long_orders()):
            rank = {place: index for index, place in enumerate(order)}
            places = [at for at in range(len(order)) if all(rank[at] < rank[earlier] for earlier in range(at))]
            for again in range(2):
                self.assertEqual(factor_places(order), tuple(places), order)
            self.assertTrue(all(type(place) is int for place in factor_places(order)))


class LongestSimpleTest(unittest.TestCase):
    def check(self, word):
        told = longest_simple(slow_order(word))
        self.assertIs(type(told), tuple)
        self.assertEqual(told, slow_longest(word), word)
        self.assertEqual(longest_simple(slow_order(word)), told)

    def test_short_words(self):
        for word in itertools.chain(short_words("abc", 5), short_words("ab", 7)):
            self.check(word)

    def test_long_words(self):
        for word in long_words() + drawn_words(60, 5):
            self.check(word)

    def test_orders_alone(self):
        for order in itertools.chain(all_orders(6), long_orders()):
            self.assertEqual(longest_simple(order), slow_longest(least_word(order)), order)

    def test_one_place(self):
        self.assertEqual(longest_simple((0,)), (1,))


class SameOrderTest(unittest.TestCase):
    """Words with the same tail order have factors at the same places and the same longest simple words."""

    def check(self, order, words):
        for word in words:
            self.assertEqual(starts_of(slow_factors(word)), factor_places(order), word)
            self.assertEqual(starts_of(factors(word)), factor_places(order), word)
            self.assertEqual(slow_longest(word), longest_simple(order), word)

    def test_all_short_orders(self):
        for order in all_orders(5):
            self.check(order, each_filling(order, 5))

    def test_long_orders(self):
        for order in long_orders():
            self.check(order, itertools.islice(each_filling(order, 26), 3))

    def test_long_words(self):
        for word in long_words():
            order = slow_order(word)
            self.check(order, itertools.islice(each_filling(order, 26), 2))


class CutHoldsTest(unittest.TestCase):
    def check(self, word, value, holds):
        with self.subTest(word=word, value=value):
            self.assertIs(cut_holds(word, value), holds)
            self.assertIs(cut_holds(word, value), holds)

    def test_one_cut_only(self):
        words = itertools.chain(short_words("ab", 8), short_words("abc", 6), drawn_words(120, 6))
        for word in words:
            word = word[:8]
            parts = slow_factors(word)
            for cut in all_cuts(word):
                self.assertIs(cut_holds(word, cut), cut == parts, (word, cut))

    def test_factors_hold(self):
        for word in long_words():
            self.check(word, factors(word), True)
            self.check(word, slow_factors(word), True)

    def test_parts_of_other_cuts(self):
        for word in long_words():
            parts = slow_factors(word)
            for at, part in enumerate(parts):
                before, behind = parts[:at], parts[at + 1:]
                self.check(word, before + behind, False)
                self.check(word, before + (part, part) + behind, False)
                self.check(word, before + ("",) + parts[at:], False)
                self.check(word, before + (part.upper(),) + behind, False)
                self.check(word, before + (part + "a",) + behind, False)
                if len(part) > 1:
                    self.check(word, before + (part[:1], part[1:]) + behind, False)
                    self.check(word, before + (part[:-1], part[-1:]) + behind, False)
                if behind:
                    self.check(word, before + (part + behind[0],) + behind[1:], False)
                    if part != behind[0]:
                        self.check(word, before + (behind[0], part) + behind[1:], False)
            self.check(word, parts + ("",), False)
            self.check(word, parts + parts, False)

    def test_other_kinds(self):
        for word in ("b", "banana", "aab", "a" * 24, "z" * 24):
            parts = slow_factors(word)
            others = (list(parts), [parts], (parts,), " ".join(parts), {part: part for part in parts}, word, [word], 0, 1)
            for value in STRANGE + others:
                self.check(word, value, False)
            for at in range(len(parts)):
                for value in STRANGE + (0, parts, list(parts), (parts[at],), [parts[at]]):
                    self.check(word, parts[:at] + (value,) + parts[at + 1:], False)

    def test_factors_of_another_word(self):
        for word in long_words():
            self.check(word, factors(word[::-1] + "a"), False)
            self.check(word, ("z",) + slow_factors(word), False)

    def test_arguments_stay(self):
        value = ("a", ["b", {"c": [1]}])
        self.check("ab", value, False)
        self.assertEqual(value, ("a", ["b", {"c": [1]}]))


class LeastTurnTest(unittest.TestCase):
    def check(self, word):
        turns = [word[place:] + word[:place] for place in range(len(word))]
        told = least_turn(word)
        self.assertEqual(told, turns.index(min(turns)), word)
        self.assertIs(type(told), int)
        self.assertEqual(least_turn(word), told)

    def test_short_words(self):
        for word in itertools.chain(short_words("abc", 6), short_words("ab", 9)):
            self.check(word)

    def test_long_words(self):
        for word in long_words() + drawn_words(300, 7):
            self.check(word)

    def test_words_that_repeat_a_part(self):
        for block in list(short_words("ab", 6)) + ["abcabd", "zya", "banana"]:
            for times in range(1, 25 // len(block)):
                self.check(block * times)
                self.assertLess(least_turn(block * times), len(block))
        self.assertEqual(least_turn("ba" * 12), 1)
        self.assertEqual(least_turn("b" * 24), 0)


class BeyondTest(unittest.TestCase):
    """Somewhat beyond the limits there is no error either."""

    def test_more_letters(self):
        for word in ("a" * 30, "ab" * 14, "a" * 28 + "b", ALPHABET + "ab"):
            self.assertIs(is_simple(word), slow_simple(word))
            self.assertEqual(factors(word), slow_factors(word))
            self.assertEqual(longest_simple(slow_order(word)), slow_longest(word))
            self.assertIs(cut_holds(word, slow_factors(word)), True)
            turns = [word[place:] + word[:place] for place in range(len(word))]
            self.assertEqual(least_turn(word), turns.index(min(turns)))


if __name__ == "__main__":
    unittest.main()
