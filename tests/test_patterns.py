import inspect
import itertools
import random
import unittest

from tailranks.far import count_places, far_before, far_letter, far_place, far_rank, place_at
from tailranks.heads import count_parts, longest_twice, part_index
from tailranks.patterns import each_place, find, finding_holds, places_of, select
from tailranks.words import comes_before, tail_order, tail_ranks
from tests.samples import (
    ALPHABET,
    STRANGE,
    drawn_words,
    long_words,
    outcome,
    short_words,
    slow_factors,
    slow_finding,
    slow_order,
    slow_places,
)

PROPERTIES = ("letter", "rank", "factor", "strict")


def patterns_for(word):
    """Parts, parts with a letter changed or added, other words, and longer ones than the word."""
    source = random.Random(word)
    patterns = {"a", "b", "m", "z", "ab", "zz", "banana", "a" * 24, "z" * 24, word, word + "a", word + "z", "a" + word}
    for k in range(10):
        low = source.randrange(len(word))
        part = word[low:source.randrange(low, len(word)) + 1]
        at = source.randrange(len(part))
        letter = source.choice(ALPHABET[:4] + word)
        patterns.update((part, part[:at] + letter + part[at + 1:], part + letter, letter + part, word[low:]))
    return sorted(pattern for pattern in patterns if len(pattern) <= 24)


def some_words():
    return list(short_words("ab", 5)) + list(short_words("abc", 3)) + long_words() + drawn_words(60, 8)


class FindTest(unittest.TestCase):
    def check(self, word, pattern):
        told = find(word, pattern)
        self.assertEqual(repr(told), repr(slow_finding(word, pattern)), (word, pattern))
        places = places_of(word, pattern)
        self.assertEqual(repr(places), repr(slow_places(word, pattern)), (word, pattern))
        self.assertEqual(told[0], "places" if places else "between")
        order = slow_order(word)
        if places:
            self.assertTrue(0 <= told[1] < told[2] <= len(word))
            self.assertEqual(tuple(sorted(order[told[1]:told[2]])), places)
        else:
            self.assertTrue(0 <= told[1] <= len(word))
            self.assertTrue(all(word[place:] < pattern for place in order[:told[1]]))
            self.assertTrue(all(word[place:] > pattern for place in order[told[1]:]))
        self.assertEqual((find(word, pattern), places_of(word, pattern)), (told, places))

    def test_all_short_words(self):
        for word in short_words("ab", 5):
            for pattern in short_words("abc", 4):
                self.check(word, pattern)

    def test_long_words(self):
        for word in some_words():
            for pattern in patterns_for(word):
                self.check(word, pattern)

    def test_edges(self):
        self.assertEqual(find("b", "a"), ("between", 0))
        self.assertEqual(find("b", "b"), ("places", 0, 1))
        self.assertEqual(find("b", "bb"), ("between", 1))
        self.assertEqual(find("b", "c"), ("between", 1))
        self.assertEqual(find("a" * 24, "a"), ("places", 0, 24))
        self.assertEqual(find("a" * 24, "b"), ("between", 24))
        self.assertEqual(find("b" * 24, "a" * 24), ("between", 0))
        self.assertEqual(find("ab", "a" * 24), ("between", 0))

    def test_exactly_one_of_both_findings(self):
        for word in list(short_words("ab", 4)) + ["banana"]:
            many = len(word) + 1
            values = [("between", index) for index in range(-1, many + 1)]
            values += [("places", low, high) for low in range(-1, many + 1) for high in range(-1, many + 1)]
            for pattern in itertools.chain(short_words("ab", 3), ("an", "nan", "bb", "z")):
                held = [value for value in values if finding_holds(word, pattern, value)]
                self.assertEqual(held, [slow_finding(word, pattern)])


class EachPlaceTest(unittest.TestCase):
    def test_order(self):
        for word in some_words():
            for pattern in patterns_for(word):
                places = [place for place in slow_order(word) if word[place:].startswith(pattern)]
                for again in range(2):
                    self.assertEqual(list(each_place(word, pattern)), places, (word, pattern))

    def test_left_early_and_begun_anew(self):
        places = each_place("banana", "an")
        self.assertTrue(inspect.isgenerator(places))
        self.assertEqual(next(places), 3)
        self.assertEqual(list(each_place("banana", "an")), [3, 1])
        for place in each_place("banana", "a"):
            break
        self.assertEqual(place, 5)
        self.assertEqual(list(places), [1])
        self.assertEqual(list(places), [])
        self.assertEqual(list(each_place("banana", "x")), [])


class FindingHoldsTest(unittest.TestCase):
    def check(self, word, pattern, value, holds):
        with self.subTest(word=word, pattern=pattern, value=value):
            self.assertIs(finding_holds(word, pattern, value), holds)
            self.assertIs(finding_holds(word, pattern, value), holds)

    def test_findings_hold(self):
        for word in some_words():
            for pattern in patterns_for(word):
                self.check(word, pattern, find(word, pattern), True)
                self.check(word, pattern, slow_finding(word, pattern), True)

    def test_changed_findings(self):
        for word in ["a", "ab", "aa", "banana"] + long_words()[::5]:
            for pattern in patterns_for(word):
                found = slow_finding(word, pattern)
                for at in range(1, len(found)):
                    number = found[at]
                    others = (number + 1, number - 1, -number - 1, number + 24, str(number), None, bool(number), "a",
                              (number,), [number], {"a": number}, 10 ** 59)
                    for other in others:
                        self.check(word, pattern, found[:at] + (other,) + found[at + 1:], False)
                for value in (found[:-1], found[1:], found + (0,), found + found, (0,) + found, list(found), (found,),
                              [found], str(found), {found[0]: found[1]}, found[::-1], (list(found),)):
                    self.check(word, pattern, value, False)
                for name in ("places", "between", "Places", "place", "", None, 0, ("places",), ["between"]):
                    if name != found[0]:
                        self.check(word, pattern, (name,) + found[1:], False)

    def test_bools(self):
        self.assertEqual(find("banana", "an"), ("places", 1, 3))
        self.check("banana", "an", ("places", True, 3), False)
        self.assertEqual(find("a", "a"), ("places", 0, 1))
        for value in (("places", False, 1), ("places", 0, True), ("places", False, True)):
            self.check("a", "a", value, False)
        self.check("b", "a", ("between", 0), True)
        self.check("b", "a", ("between", False), False)
        self.check("b", "c", ("between", 1), True)
        self.check("b", "c", ("between", True), False)

    def test_strange_values(self):
        for value in STRANGE + (0, 1, "places", "between", ("places",), ("between",), "banana"):
            for word, pattern in (("banana", "an"), ("banana", "x"), ("a", "a")):
                self.check(word, pattern, value, False)

    def test_findings_of_other_patterns(self):
        self.check("banana", "an", find("banana", "na"), False)
        self.check("banana", "bb", find("banana", "x"), False)

    def test_arguments_stay(self):
        value = ("places", [1, {"a": [2]}], 3)
        self.check("banana", "an", value, False)
        self.assertEqual(value, ("places", [1, {"a": [2]}], 3))


class SelectTest(unittest.TestCase):
    def rows(self, word):
        """The properties of each place, each by its definition."""
        order = slow_order(word)
        starts = list(itertools.accumulate([0] + [len(part) for part in slow_factors(word)]))
        rank = {place: index for index, place in enumerate(order)}
        rank[len(word)] = -1
        rows = []
        for place in range(len(word)):
            at = rank[place]
            strict = at > 0 and rank[order[at - 1] + 1] > rank[place + 1]
            rows.append({"letter": word[place], "rank": at, "factor": place in starts, "strict": strict})
        return rows

    def slow_select(self, word, wanted):
        rows = self.rows(word)
        places = [place for place in range(len(word)) if all(rows[place][name] == wanted[name] for name in wanted)]
        return tuple(places)

    def check(self, word, wanted):
        before = dict(wanted)
        told = select(word, **wanted)
        self.assertEqual(repr(told), repr(self.slow_select(word, wanted)), (word, wanted))
        self.assertEqual(select(word, **wanted), told)
        self.assertEqual(list(wanted.items()), list(before.items()))

    def wishes(self, word):
        rank = random.Random(word).randrange(len(word))
        return {
            "letter": sorted(set(word)) + ["q"],
            "rank": [0, rank, len(word) - 1, len(word), -1, 10 ** 59, -(10 ** 59)],
            "factor": [True, False],
            "strict": [True, False],
        }

    def test_none_to_four_wishes(self):
        source = random.Random(10)
        for word in ["a", "ba", "ab", "aa", "banana"] + long_words()[::7]:
            wishes = self.wishes(word)
            for size in range(5):
                for names in itertools.permutations(PROPERTIES, size):
                    for again in range(5):
                        self.check(word, {name: source.choice(wishes[name]) for name in names})
            for row in self.rows(word):
                self.check(word, row)

    def test_one_wish(self):
        for word in some_words():
            for name, values in self.wishes(word).items():
                for value in values:
                    self.check(word, {name: value})

    def test_no_wish(self):
        for word in some_words():
            self.assertEqual(select(word), tuple(range(len(word))))

    def test_ranks(self):
        for word in long_words():
            for rank, place in enumerate(slow_order(word)):
                self.assertEqual(select(word, rank=rank), (place,))
            for rank in (-1, -len(word), len(word), len(word) + 1, 10 ** 60 - 1):
                self.assertEqual(select(word, rank=rank), ())

    def refused(self, error, field, word, /, **wanted):
        for again in range(2):
            told = outcome(select, word, **wanted)
            self.assertEqual(told[:2], ("raised", error), wanted)
            self.assertEqual(len(told[2]), 1)
            self.assertIs(told[2][0], field)

    def test_names_that_are_no_properties(self):
        for name in ("place", "Letter", "letters", "rank_", "", "factors", "word ", "self", "pattern", "name", "x y"):
            self.refused("NoProperty", name, "banana", **{name: True})
            self.refused("NoProperty", name, "banana", letter="a", **{name: 0})
            self.refused("NoProperty", name, "banana", **{name: 0}, letter="a")

    def test_the_first_name_is_told(self):
        self.refused("NoProperty", "one", "banana", one=1, other=2)
        self.refused("NoProperty", "other", "banana", other=2, one=1)
        self.refused("NoProperty", "other", "banana", rank=0, other=2, letter="a", one=1)

    def test_wrong_names_come_before_wrong_values(self):
        self.refused("NoProperty", "one", "banana", rank=None, one=1)
        self.refused("NoProperty", "one", "banana", letter="ab", factor=1, strict=0, one=1)

    def test_values_of_other_kinds(self):
        words = ("ab", "aa", "A", "", " ", "a ", "a\n", "1", "{", "`")
        wrong = {
            "letter": words + (0, 1),
            "rank": ("0", "a", (0,), [0]),
            "factor": (0, 1, -1, "True", "a", (True,), [False]),
            "strict": (0, 1, -1, "False", "a", (True,), [False]),
        }
        for name, values in wrong.items():
            for value in values:
                self.refused("BadWish", value, "banana", **{name: value})
        for value in STRANGE:
            self.refused("BadWish", value, "banana", letter=value)
            if not isinstance(value, int) or isinstance(value, bool):
                self.refused("BadWish", value, "banana", rank=value)
            if not isinstance(value, bool):
                self.refused("BadWish", value, "banana", factor=value)
                self.refused("BadWish", value, "banana", strict=value)

    def test_the_first_value_is_told(self):
        one, other = [1], [1]
        self.refused("BadWish", one, "banana", letter=one, rank=other)
        self.refused("BadWish", other, "banana", rank=other, letter=one)
        self.refused("BadWish", True, "banana", letter="a", factor=False, rank=True, strict=0)
        self.refused("BadWish", 0, "banana", letter="a", factor=False, strict=0, rank=True)

    def test_arguments_stay(self):
        value = [1, {"a": [2]}]
        self.refused("BadWish", value, "banana", letter=value)
        self.assertEqual(value, [1, {"a": [2]}])


class TogetherTest(unittest.TestCase):
    def test_parts_are_what_is_found(self):
        for word in some_words():
            for pattern in patterns_for(word):
                stands = find(word, pattern)[0] == "places"
                self.assertIs(part_index(word, pattern) is not None, stands, (word, pattern))
                self.assertIs(places_of(word, pattern) != (), stands)

    def test_number_of_patterns(self):
        for word in short_words("ab", 4):
            stand = [pattern for pattern in short_words("ab", 4) if find(word, pattern)[0] == "places"]
            self.assertEqual(len(stand), count_parts(word))

    def test_longest_twice(self):
        for word in some_words():
            told = longest_twice(word)
            if told is not None:
                self.assertEqual(told[1], places_of(word, told[0]))
                self.assertGreater(len(told[1]), 1)


class FarTest(unittest.TestCase):
    """Far words of few times, together with the functions on the word that is written out."""

    def blocks(self):
        for block in list(short_words("ab", 4)) + ["banana", "aab", "zya", "abcabd"] + drawn_words(40, 9):
            for times in range(1, 24 // len(block) + 1):
                yield block, times

    def test_order(self):
        for block, times in self.blocks():
            word = block * times
            places = range(len(word))
            self.assertEqual("".join(far_letter(block, times, place) for place in places), word)
            self.assertEqual(tuple(far_place(block, times, rank) for rank in places), tail_order(word))
            self.assertEqual(tuple(far_rank(block, times, place) for place in places), tail_ranks(word))
            for one, other in itertools.product(places, (0, len(word) - 1, len(word) // 2)):
                self.assertIs(far_before(block, times, one, other), comes_before(word, one, other))

    def test_patterns(self):
        for block, times in self.blocks():
            word = block * times
            for pattern in patterns_for(word):
                places = places_of(word, pattern)
                self.assertEqual(count_places(block, times, pattern), len(places))
                told = [place_at(block, times, pattern, index) for index in range(len(places))]
                self.assertEqual(tuple(told), places)


class BeyondTest(unittest.TestCase):
    """Somewhat beyond the limits there is no error either."""

    def test_more_letters(self):
        for word in ("a" * 30, "ab" * 14, ALPHABET + "ab"):
            for pattern in ("a", "ab", "a" * 26, "ab" * 13, "a" * 31, ALPHABET, "c" * 30):
                self.assertEqual(find(word, pattern), slow_finding(word, pattern))
                self.assertEqual(places_of(word, pattern), slow_places(word, pattern))
                self.assertIs(finding_holds(word, pattern, slow_finding(word, pattern)), True)
            self.assertEqual(select(word, rank=25), (slow_order(word)[25],))


if __name__ == "__main__":
    unittest.main()
