"""What the document promises over the whole program: the interface and the guarantees."""

import inspect
import itertools
import random
import unittest

import tailranks
from tailranks import bounds, consoles, desks, errors, factors, far, fillings, heads, orders, patterns, texts, words
from tailranks.desks import Desk, LoggedDesk, LoggedSimpleDesk, SimpleDesk
from tests.desk_model import FREE_KINDS, KINDS, drawn_edit, state
from tests.samples import (
    ALPHABET,
    all_orders,
    drawn_words,
    long_orders,
    long_words,
    outcome,
    short_words,
    slow_factors,
    slow_finding,
    slow_order,
    slow_places,
)

BOUNDS = {"MAX_WORD": 24, "MAX_COUNT": 40, "MAX_TIMES": 10 ** 12, "MAX_EDITS": 60, "BATCH": 20}
FUNCTIONS = {
    words: (
        "is_word(value)", "word_error(value)", "tail_order(word)", "tail_ranks(word)", "comes_before(word, one, other)",
        "agreed(*words)",
    ),
    orders: (
        "is_order(value)", "order_error(value)", "ranks_of(order)", "strict_steps(order)", "fewest_letters(order)",
        "least_word(order)", "find_difference(one, other)", "shrunk(order)", "grown(order, index)",
    ),
    fillings: (
        "count_fillings(order, many)", "filling_at(order, many, index)", "filling_index(word, many)",
        "each_filling(order, many)", "count_orders(n, steps)",
    ),
    factors: (
        "is_simple(word)", "factor_places(order)", "factors(word)", "longest_simple(order)", "cut_holds(word, value)",
        "least_turn(word)",
    ),
    heads: (
        "common_length(word, one, other)", "heads_of(word)", "rebuilt(order, value)", "count_parts(word)",
        "part_at(word, index)", "part_index(word, value)", "each_part(word)", "longest_twice(word)",
    ),
    patterns: (
        "find(word, pattern)", "places_of(word, pattern)", "finding_holds(word, pattern, value)",
        "each_place(word, pattern)", "select(word, **wanted)",
    ),
    far: (
        "far_letter(block, times, place)", "far_before(block, times, one, other)", "far_rank(block, times, place)",
        "far_place(block, times, rank)", "count_places(block, times, pattern)", "place_at(block, times, pattern, index)",
    ),
    texts: (
        "word_text(word)", "order_text(order)", "places_text(places)", "parse_word(text)", "parse_order(text)",
    ),
}
METHODS = {
    Desk: (
        "__init__(self, word)", "look(self, value)", "change(self, place, letter)", "grow(self, letter)", "shrink(self)",
        "undo(self)", "run(self, edits, *, on_step=None)", "rank_of(self, place)", "word_at(self, version)", "edits(self)",
        "walk(self)", "copy(self)", "__call__(self, pattern)",
    ),
    SimpleDesk: ("__init__(self, word)",),
    LoggedDesk: (
        "__init__(self, word)", "change(self, place, letter)", "grow(self, letter)", "shrink(self)", "undo(self)",
        "run(self, edits, *, on_step=None)", "copy(self)",
    ),
    LoggedSimpleDesk: ("__init__(self, word)",),
    consoles.Console: ("__init__(self, desk)", "execute(self, line)"),
}
GENERATORS = (fillings.each_filling, heads.each_part, patterns.each_place, Desk.walk)


class InterfaceTest(unittest.TestCase):
    def test_bounds(self):
        for name, value in BOUNDS.items():
            self.assertEqual(repr(getattr(bounds, name)), repr(value))

    def test_functions(self):
        for module, wanted in FUNCTIONS.items():
            for text in wanted:
                action = getattr(module, text.split("(")[0])
                self.assertTrue(inspect.isfunction(action))
                self.assertEqual(action.__module__, module.__name__)
                self.assertEqual(action.__name__ + str(inspect.signature(action)), text)

    def test_classes(self):
        for kind, wanted in METHODS.items():
            for text in wanted:
                action = vars(kind)[text.split("(")[0]]
                self.assertEqual(action.__name__ + str(inspect.signature(action)), text)
        self.assertEqual(str(inspect.signature(Desk.read)), "(text)")
        self.assertEqual(str(inspect.signature(Desk.is_edit)), "(value)")

    def test_generators(self):
        for action in GENERATORS:
            self.assertTrue(inspect.isgeneratorfunction(action))

    def test_errors(self):
        self.assertTrue(issubclass(errors.TailError, ValueError))
        for name in ("NoPlace", "NoIndex", "NoVersion"):
            self.assertTrue(issubclass(getattr(errors, name), LookupError))

    def test_package(self):
        self.assertEqual(tailranks.__name__, "tailranks")
        self.assertEqual({desks.__name__, consoles.__name__}, {"tailranks.desks", "tailranks.consoles"})


class GuaranteesTest(unittest.TestCase):
    def some_words(self):
        return list(short_words("ab", 5)) + list(short_words("abc", 4)) + long_words() + drawn_words(60, 22)

    def test_a_every_order_is_a_tail_order(self):
        for order in itertools.chain(all_orders(6), long_orders()):
            word = orders.least_word(order)
            self.assertTrue(words.is_word(word))
            self.assertEqual(words.tail_order(word), order)
            self.assertEqual(slow_order(word), order)

    def test_b_words_with_an_order_are_its_fillings(self):
        for size in range(1, 5):
            for many in range(1, 5):
                rows = {order: [] for order in itertools.permutations(range(size))}
                for letters in itertools.product(ALPHABET[:many], repeat=size):
                    rows[slow_order("".join(letters))].append("".join(letters))
                for order, alike in rows.items():
                    alike.sort(key=lambda word: [word[place] for place in order])
                    self.assertEqual(list(fillings.each_filling(order, many)), alike)
                    self.assertEqual(fillings.count_fillings(order, many), len(alike))
                    self.assertEqual([fillings.filling_index(word, many) for word in alike], list(range(len(alike))))
                    self.assertEqual([fillings.filling_at(order, many, at) for at in range(len(alike))], alike)

    def test_c_factors_follow_from_the_order(self):
        for order in itertools.chain(all_orders(5), long_orders()):
            places = factors.factor_places(order)
            for word in itertools.islice(fillings.each_filling(order, 26), 4):
                parts = slow_factors(word)
                self.assertEqual(places, tuple(itertools.accumulate([0] + [len(part) for part in parts[:-1]])))
                lengths = [len(slow_factors(word[place:])[0]) for place in range(len(word))]
                self.assertEqual(factors.longest_simple(order), tuple(lengths))

    def test_d_order_and_heads_determine_the_word(self):
        for word in self.some_words():
            letters = sorted(set(word))
            least = "".join(ALPHABET[letters.index(letter)] for letter in word)
            self.assertEqual(heads.rebuilt(words.tail_order(word), heads.heads_of(word)), least)

    def test_e_each_pattern_is_found_or_stands_between(self):
        for word in self.some_words():
            order = slow_order(word)
            for pattern in ("a", "ab", "ba", "m", "z" * 24, word, word[1:] or "a", word[:3], word[-1] * 2):
                found = patterns.find(word, pattern)
                if found[0] == "places":
                    self.assertEqual(tuple(sorted(order[found[1]:found[2]])), slow_places(word, pattern))
                    self.assertLess(found[1], found[2])
                else:
                    self.assertEqual(slow_places(word, pattern), ())
                    self.assertEqual([word[place:] < pattern for place in order], [at < found[1] for at in range(len(word))])

    def test_f_far_words(self):
        for block in ("a", "ab", "ba", "aab", "abab", "banana"):
            for times in (1, 2, 3, 4):
                word = block * times
                ranks = [far.far_rank(block, times, place) for place in range(len(word))]
                self.assertEqual(tuple(ranks), words.tail_ranks(word))
                for pattern in ("a", "ab", "ba", "aa", "ana", word):
                    self.assertEqual(far.count_places(block, times, pattern), len(patterns.places_of(word, pattern)))

    def test_g_what_is_held_is_correct(self):
        source = random.Random(23)
        for word in self.some_words():
            for other in ("a", "ab", "b", word):
                values = [slow_finding(word, other), slow_finding(other, word), ("between", source.randrange(len(word) + 1))]
                for value in values:
                    self.assertIs(patterns.finding_holds(word, other, value), value == slow_finding(word, other))
                value = slow_factors(other)
                self.assertIs(factors.cut_holds(word, value), other == word)

    def test_h_desks_depend_on_their_word_only(self):
        source = random.Random(24)
        for kind in FREE_KINDS:
            for word in ("b", "ab", "banana", "ab" * 12):
                desk = kind(word)
                desk.look("a")
                for at in range(30):
                    outcome(desk.run, [drawn_edit(source, desk.word) for k in range(2)])
                    fresh = kind(desk.word)
                    fresh.look("a")
                    told = (desk.word, desk.order, desk.found, desk == fresh, fresh == desk)
                    self.assertEqual(told, (fresh.word, slow_order(desk.word), fresh.found, True, True))
                    self.assertEqual(desk.found, slow_places(desk.word, "a"))
                while desk.version > 0:
                    desk.undo()
                self.assertEqual(desk.word, word)


class DesksAsValuesTest(unittest.TestCase):
    """A desk is no word, order, place, edit, batch or line, wherever any value is accepted."""

    def test_functions(self):
        for kind in KINDS:
            for value in (kind("ab"), (kind("ab"),), ("ab", kind("b")), [kind("ab")]):
                self.assertIs(words.is_word(value), False)
                self.assertIs(orders.is_order(value), False)
                self.assertIsNone(heads.rebuilt((0, 1), value))
                self.assertIsNone(heads.part_index("ab", value))
                self.assertIs(factors.cut_holds("ab", value), False)
                self.assertIs(patterns.finding_holds("ab", "ab", value), False)
                self.assertIs(patterns.finding_holds("ab", "ab", ("places", value, 1)), False)
                self.assertIs(Desk.is_edit(value), False)
                for action, *arguments in (
                    (words.comes_before, "ab", value, 0), (heads.common_length, "ab", 0, value), (orders.grown, (0,), value),
                    (fillings.filling_at, (0,), 1, value), (heads.part_at, "ab", value), (far.far_rank, "ab", 5, value),
                    (texts.parse_word, value), (texts.parse_order, value), (Desk, value), (Desk.read, value),
                ):
                    self.assertEqual(outcome(action, *arguments)[0], "raised")

    def test_desks(self):
        for kind in KINDS:
            desk = kind("ab")
            before = state(desk)
            for value in (kind("ab"), kind("a"), desk):
                for action, *arguments in (
                    (desk.change, value, "a"), (desk.change, 0, value), (desk.grow, value), (desk.run, value),
                    (desk.run, [value]), (desk.run, [("grow", value)]), (desk.look, value), (desk, value),
                    (desk.rank_of, value), (desk.word_at, value), (desk.__getitem__, value),
                ):
                    self.assertEqual(outcome(action, *arguments)[0], "raised")
                self.assertIs(value in desk, False)
                self.assertEqual(consoles.Console(desk).execute(value), "unknown command")
            self.assertEqual(state(desk), before)


if __name__ == "__main__":
    unittest.main()
