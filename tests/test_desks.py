import inspect
import random
import unittest

from tailranks.bounds import MAX_EDITS
from tailranks.desks import Desk, LoggedDesk, LoggedSimpleDesk, SimpleDesk
from tailranks.errors import BadWord
from tailranks.words import word_error
from tests.desk_model import FREE_KINDS, KINDS, NO_LETTERS, SIMPLE_KINDS, Model, drawn_edit, simple_words, state
from tests.samples import (
    ALPHABET,
    STRANGE,
    drawn_words,
    long_words,
    no_indexes,
    outcome,
    slow_finding,
    slow_order,
    slow_places,
)

BAD_WORDS = STRANGE + (0, 5, "a" * 25, "abC", "ab ", " ab", "aN", "word ana", "ana\n", ("ana",), ["ana"], {"ana": 1}, 1)


class DeskTest(unittest.TestCase):
    def refused(self, desk, error, fields, action, *values):
        """The call raises this error with these very fields, twice, and the desk stays as it was."""
        before = state(desk)
        for again in range(2):
            told = outcome(action, *values)
            self.assertEqual(told[:2], ("raised", error), (desk.word, values))
            self.assertEqual(len(told[2]), len(fields))
            for field, wanted in zip(told[2], fields):
                self.assertIs(field, wanted)
            self.assertEqual(state(desk), before)


class ClassTest(unittest.TestCase):
    def test_class_values(self):
        for kind in KINDS:
            self.assertEqual(repr((kind.MOST_EDITS, kind.NAMES)), "(60, ('change', 'grow', 'shrink'))")
            self.assertEqual(repr(kind("ab").NAMES), "('change', 'grow', 'shrink')")
        self.assertEqual(Desk.MOST_EDITS, MAX_EDITS)

    def test_bases(self):
        self.assertEqual(SimpleDesk.__bases__, (Desk,))
        self.assertEqual(LoggedDesk.__bases__, (Desk,))
        self.assertEqual(LoggedSimpleDesk.__bases__, (LoggedDesk, SimpleDesk))

    def test_members_stand_in_the_class(self):
        for name in ("read", "is_edit", "look", "change", "grow", "shrink", "undo", "run", "rank_of", "word_at", "edits",
                     "walk", "copy", "__getitem__", "__contains__", "__lt__", "__call__", "__len__", "__str__", "__eq__"):
            self.assertIn(name, vars(Desk))
        for name in ("word", "order", "version", "pattern", "found"):
            self.assertIsInstance(vars(Desk)[name], property)
        self.assertIsInstance(vars(LoggedDesk)["log"], property)
        self.assertIsInstance(vars(Desk)["read"], classmethod)
        self.assertIsInstance(vars(Desk)["is_edit"], staticmethod)
        for kind in KINDS:
            self.assertIn("__init__", vars(kind))
        self.assertEqual(str(inspect.signature(Desk.run)), "(self, edits, *, on_step=None)")


class ConstructorTest(unittest.TestCase):
    def test_new_desks(self):
        for word in long_words():
            for kind in FREE_KINDS:
                desk = kind(word)
                self.assertIs(type(desk), kind)
                self.assertEqual(state(desk), Model(kind, word).state())
                self.assertIsNone(desk.pattern)
                self.assertIsNone(desk.found)

    def test_values_that_are_no_words(self):
        for kind in KINDS:
            for value in BAD_WORDS:
                with self.subTest(kind=kind, value=value):
                    for again in range(2):
                        self.assertEqual(outcome(kind, value), ("raised", "BadWord", (word_error(value),)))

    def test_the_desk_keeps_the_word(self):
        word = "".join(["ban", "ana"])
        self.assertEqual(Desk(word).word, "banana")


class ReadTest(unittest.TestCase):
    def test_words(self):
        for kind in FREE_KINDS:
            for word in long_words():
                desk = kind.read("word " + word)
                self.assertIs(type(desk), kind)
                self.assertEqual(state(desk), state(kind(word)))
        for kind in SIMPLE_KINDS:
            for word in simple_words(40, 1):
                desk = kind.read("word " + word)
                self.assertIs(type(desk), kind)
                self.assertEqual(state(desk), state(kind(word)))

    def test_bad_texts(self):
        cases = (
            (None, [value for value in STRANGE if not isinstance(value, str)] + [0, 5, ["word ana"], ("word", "ana")]),
            (0, ["", "ana", "Word ana", " word ana", "order 1 0", "wordana", "word\nana"]),
            (1, ["word", "word ", "word  ana", "word Ana", "word ana\n", "word " + "a" * 25, "word ba1"]),
            (2, ["word ana ", "word ana ana", "word ba ba", "word b  "]),
        )
        for kind in KINDS:
            for index, values in cases:
                for value in values:
                    for again in range(2):
                        self.assertEqual(outcome(kind.read, value), ("raised", "BadText", (index,)), value)

    def test_then_what_the_constructor_raises(self):
        for kind in SIMPLE_KINDS:
            self.assertEqual(outcome(kind.read, "word banana"), ("raised", "NotSimple", (5,)))
            self.assertEqual(outcome(kind.read, "word banana "), ("raised", "BadText", (2,)))

    def test_read_off_an_object(self):
        for kind in KINDS:
            desk = kind("ab").read("word aab")
            self.assertIs(type(desk), kind)
            self.assertEqual(desk.word, "aab")


class IsEditTest(unittest.TestCase):
    def check(self, value, told):
        for kind in KINDS:
            with self.subTest(kind=kind, value=value):
                self.assertIs(kind.is_edit(value), told)
                self.assertIs(kind("ab").is_edit(value), told)

    def test_edits_with_any_arguments(self):
        self.check(("shrink",), True)
        for value in STRANGE + (0, 5, "a", "change", ("shrink",)):
            self.check(("grow", value), True)
            self.check(("change", value, "a"), True)
            self.check(("change", 0, value), True)
            self.check(("change", value, value), True)

    def test_other_numbers_of_arguments(self):
        for value in STRANGE + (0, "a"):
            self.check(("shrink", value), False)
            self.check(("change", value), False)
            self.check(("change", value, value, value), False)
            self.check(("grow", value, value), False)
        self.check(("change",), False)
        self.check(("grow",), False)
        self.check(("shrink", "shrink"), False)

    def test_other_names(self):
        for name in STRANGE + ("undo", "run", "look", "copy", "Grow", "grow ", "shrin", "shrink\n", "", ("grow",), ["shrink"]):
            self.check((name,), False)
            self.check((name, "a"), False)
            self.check((name, 0, "a"), False)

    def test_other_kinds(self):
        for value in STRANGE + ("shrink", ["shrink"], ["grow", "a"], ["change", 0, "a"], {"shrink": 1}, (("shrink",),), 0):
            self.check(value, False)


class PropertiesTest(DeskTest):
    def test_cannot_be_assigned(self):
        for kind in KINDS:
            desk = kind("aab")
            desk.grow("a")
            before = state(desk)
            for name in ("word", "order", "version", "found") + (("log",) if isinstance(desk, LoggedDesk) else ()):
                with self.assertRaises(AttributeError):
                    setattr(desk, name, getattr(desk, name))
                self.assertEqual(state(desk), before)

    def test_pattern(self):
        for kind in KINDS:
            desk = kind("aab")
            for pattern in ("a", "ab", "b", "x", "aab", "a" * 24, None, "aab", None, None):
                desk.pattern = pattern
                self.assertEqual(desk.pattern, pattern)
                self.assertEqual(desk.found, None if pattern is None else slow_places("aab", pattern))
                self.assertEqual((desk.version, desk.edits()), (0, ()))

    def test_values_that_are_no_patterns(self):
        for kind in KINDS:
            for before in (None, "ab"):
                desk = kind("aab")
                desk.pattern = before
                for value in BAD_WORDS:
                    if value is not None:
                        with self.subTest(value=value):
                            for again in range(2):
                                with self.assertRaises(BadWord) as caught:
                                    desk.pattern = value
                                self.assertEqual(caught.exception.error, word_error(value))
                                self.assertEqual(desk.pattern, before)

    def test_pattern_through_edits_undo_and_errors(self):
        for kind in KINDS:
            desk = kind("ab")
            desk.pattern = "ab"
            self.assertEqual([desk.grow("a"), desk.found, desk.pattern], [1, (1,), "ab"])
            self.assertEqual([desk.change(1, "b"), desk.found, desk.pattern], [2, (0,), "ab"])
            desk.pattern = "b"
            self.assertEqual([desk.undo(), desk.found, desk.pattern], [1, (2,), "b"])
            self.assertEqual(outcome(desk.grow, 5), ("raised", "BadLetter", (5,)))
            self.assertEqual(outcome(desk.run, 5), ("raised", "BadEdits", ()))
            self.assertEqual(outcome(desk.run, [5]), ("raised", "BadEdit", (0,)))
            self.assertEqual(outcome(desk.run, [("grow", 5)]), ("raised", "Rejected", (0,)))
            self.assertEqual(outcome(desk.look, 5), ("raised", "BadWord", ((None, "word"),)))
            self.assertEqual([desk.found, desk.pattern], [(2,), "b"])
            self.assertEqual([desk.undo(), desk.found, desk.pattern], [0, (1,), "b"])
            self.assertEqual([desk.run([("grow", "a")]), desk.found, desk.pattern], [1, (2,), "b"])


class LookTest(DeskTest):
    def test_words_and_none(self):
        for kind in FREE_KINDS:
            for word in long_words()[::5]:
                desk = kind(word)
                for pattern in (word, word[0], word[len(word) // 2:], "x", "a" * 24, None, "a", None):
                    told = desk.look(pattern)
                    self.assertEqual(told, None if pattern is None else slow_places(word, pattern))
                    self.assertEqual((desk.pattern, desk.found), (pattern, told))
                self.assertEqual(desk.version, 0)

    def test_any_values(self):
        for kind in KINDS:
            desk = kind("aab")
            desk.look("ab")
            for value in BAD_WORDS:
                if value is not None:
                    for again in range(2):
                        self.assertEqual(outcome(desk.look, value), ("raised", "BadWord", (word_error(value),)))
                        self.assertEqual((desk.pattern, desk.found), ("ab", (1,)))


class EditsTest(DeskTest):
    def test_change_each_place(self):
        for word in ("a", "ba", "banana", "z" * 24):
            for kind in FREE_KINDS:
                for place in range(len(word)):
                    for letter in {"a", "b", "z", word[place]}:
                        desk = kind(word)
                        model = Model(kind, word)
                        self.assertEqual(outcome(desk.change, place, letter), model.outcome("change", place, letter))
                        self.assertEqual(state(desk), model.state())

    def test_each_letter(self):
        for letter in ALPHABET:
            desk = Desk("m")
            self.assertEqual([desk.change(0, letter), desk.word, desk.grow(letter), desk.word], [1, letter, 2, letter * 2])

    def test_both_ends(self):
        desk = Desk("a")
        for size in range(2, 25):
            self.assertEqual(desk.grow(ALPHABET[size]), size - 1)
            self.assertEqual(len(desk), size)
        self.refused(desk, "TooLong", (24,), desk.grow, "a")
        for size in range(23, 0, -1):
            self.assertEqual(desk.shrink(), 47 - size)
            self.assertEqual(len(desk), size)
        self.refused(desk, "LastLetter", (), desk.shrink)
        self.assertEqual(desk.word, "a")

    def test_the_same_letter(self):
        for kind in KINDS:
            desk = kind("aab")
            self.assertEqual([desk.change(1, "a"), desk.version, desk.word], [1, 1, "aab"])
            self.assertEqual(desk.edits(), (("change", 1, "a"),))
            self.assertEqual(desk.undo(), 0)

    def test_errors_of_change(self):
        for kind in KINDS:
            for word in ("a", "ab", "aabab", "a" * 23 + "b"):
                desk = kind(word)
                for place in no_indexes(len(word)):
                    self.refused(desk, "NoPlace", (place,), desk.change, place, "a")
                    self.refused(desk, "NoPlace", (place,), desk.change, place, 5)
                for letter in NO_LETTERS:
                    self.refused(desk, "BadLetter", (letter,), desk.change, len(word) - 1, letter)

    def test_errors_of_grow(self):
        for kind in KINDS:
            for word in ("a", "ab", "a" * 23 + "b"):
                desk = kind(word)
                for letter in NO_LETTERS:
                    self.refused(desk, "BadLetter", (letter,), desk.grow, letter)
            for letter in ALPHABET:
                told = outcome(desk.grow, letter)
                self.assertEqual(repr(told), "('raised', 'TooLong', (24,))")

    def test_errors_of_shrink(self):
        for kind in KINDS:
            for letter in ("a", "m", "z"):
                desk = kind(letter)
                self.refused(desk, "LastLetter", (), desk.shrink)

    def test_sixty_edits(self):
        for kind in KINDS:
            for word in ("ab", "b", "a" * 23 + "b"):
                desk = kind(word)
                last = len(word) - 1
                for version in range(1, 61):
                    self.assertEqual(desk.change(last, "b"), version)
                for action, *values in ((desk.change, last, "b"), (desk.change, None, "b"), (desk.change, last, 5),
                                        (desk.grow, "a"), (desk.grow, None), (desk.shrink,)):
                    self.refused(desk, "TooManyEdits", (), action, *values)
                self.assertEqual([desk.undo(), desk.change(last, "b"), desk.version], [59, 60, 60])
                self.refused(desk, "TooManyEdits", (), desk.change, last, "b")
                self.assertEqual(desk.look("b"), (last,))
                for version in range(59, -1, -1):
                    self.assertEqual(desk.undo(), version)
                self.refused(desk, "NothingToUndo", (), desk.undo)

    def test_undo_at_first(self):
        for kind in KINDS:
            desk = kind("ab")
            self.refused(desk, "NothingToUndo", (), desk.undo)
            desk.grow("a")
            desk.undo()
            self.refused(desk, "NothingToUndo", (), desk.undo)

    def test_results_of_edits_stay(self):
        desk = Desk("ana")
        desk.grow("b")
        edits, words = desk.edits(), list(desk.walk())
        desk.shrink()
        self.assertEqual(edits, (("grow", "b"),))
        self.assertEqual(words, [(0, "ana"), (1, "bana")])
        self.assertIs(type(edits), tuple)
        self.assertIs(type(edits[0]), tuple)


class QueriesTest(DeskTest):
    def test_ranks_and_letters(self):
        for word in long_words():
            desk = Desk(word)
            order = slow_order(word)
            for place in range(len(word)):
                for again in range(2):
                    self.assertEqual(desk.rank_of(place), order.index(place))
                    self.assertEqual(desk[place], word[place])

    def test_values_that_are_no_places(self):
        for kind in KINDS:
            for word in ("a", "aab", "a" * 23 + "b"):
                desk = kind(word)
                for place in no_indexes(len(word)):
                    self.refused(desk, "NoPlace", (place,), desk.rank_of, place)
                    self.refused(desk, "NoPlace", (place,), desk.__getitem__, place)
                    with self.assertRaises(LookupError):
                        desk[place]

    def test_versions(self):
        for kind in KINDS:
            desk = kind("ab")
            for many in range(5):
                for version in range(many + 1):
                    self.assertEqual(desk.word_at(version), "a" * version + "ab")
                for version in no_indexes(many + 1):
                    self.refused(desk, "NoVersion", (version,), desk.word_at, version)
                desk.grow("a")
            desk.undo()
            desk.undo()
            self.refused(desk, "NoVersion", (5,), desk.word_at, 5)

    def test_walk(self):
        for kind in KINDS:
            desk = kind("ab")
            self.assertEqual(list(desk.walk()), [(0, "ab")])
            desk.run([("grow", "a"), ("change", 1, "b"), ("change", 2, "c"), ("shrink",)])
            words = [(0, "ab"), (1, "aab"), (2, "abb"), (3, "abc"), (4, "bc")]
            walk = desk.walk()
            self.assertTrue(inspect.isgenerator(walk))
            self.assertEqual([next(walk), next(walk)], words[:2])
            self.assertEqual(list(desk.walk()), words)
            for row in desk.walk():
                break
            self.assertEqual(row, (0, "ab"))
            self.assertEqual(list(walk), words[2:])
            self.assertEqual(list(walk), [])
            self.assertTrue(all(type(row) is tuple for row in desk.walk()))
            desk.undo()
            self.assertEqual(list(desk.walk()), words[:4])

    def test_in(self):
        for kind in KINDS:
            desk = kind("aabab")
            for text in ("a", "b", "aa", "ab", "ba", "aab", "aabab", "bab"):
                self.assertIs(text in desk, True)
                self.assertIs(text not in desk, False)
            for value in BAD_WORDS + ("c", "bb", "aaa", "aababa", "baa", "a" * 24, "A", "", ("a",), ["a", "b"], {"a": 1}):
                self.assertIs(value in desk, False, value)
                self.assertIs(value in desk, False, value)

    def test_call(self):
        for word in long_words()[::3]:
            for kind in FREE_KINDS:
                desk = kind(word)
                for pattern in (word, word[0], word[len(word) // 2:], "m", "a" * 24, "z" * 24):
                    self.assertEqual(desk(pattern), slow_finding(word, pattern))
                    self.assertEqual(desk(pattern), slow_finding(word, pattern))
                self.assertIsNone(desk.pattern)

    def test_call_with_any_values(self):
        for kind in KINDS:
            desk = kind("aab")
            desk.pattern = "ab"
            before = state(desk)
            for value in BAD_WORDS:
                for again in range(2):
                    self.assertEqual(outcome(desk, value), ("raised", "BadWord", (word_error(value),)))
                    self.assertEqual(state(desk), before)

    def test_less(self):
        words = simple_words(20, 2)
        for one in words:
            for other in words:
                for kind in KINDS:
                    for another in KINDS:
                        self.assertIs(kind(one) < another(other), one < other)
        desk = Desk("b")
        desk.grow("a")
        self.assertIs(desk < SimpleDesk("b"), True)
        self.assertIs(SimpleDesk("b") < desk, False)
        self.assertIs(desk < desk, False)

    def test_less_than_other_values(self):
        for value in (None, 5, "b", ("b",), ["b"], {"b": 1}, True):
            for kind in KINDS:
                with self.assertRaises(TypeError):
                    kind("a") < value

    def test_not_iterated(self):
        for kind in KINDS:
            with self.assertRaises(TypeError):
                iter(kind("ab"))


class EqualityTest(unittest.TestCase):
    def test_all_classes(self):
        for kind in KINDS:
            for another in KINDS:
                one, other = kind("ab"), another("ab")
                self.assertIs(one == other, True)
                self.assertIs(one != other, False)
                other.grow("a")
                self.assertIs(one == other, False)
                self.assertIs(one != other, True)
                one.look("a")
                one.change(1, "c")
                other.undo()
                self.assertIs(one == other, False)
                one.change(1, "b")
                self.assertIs(one == other, True)

    def test_other_values(self):
        for kind in KINDS:
            desk = kind("ab")
            for value in STRANGE + ("ab", ("ab",), ["ab"], {"word": "ab"}, 0, object(), str(desk), kind, Desk):
                self.assertIs(desk == value, False)
                self.assertIs(value == desk, False)
                self.assertIs(desk != value, True)
            self.assertIs(desk in ["ab", kind("ab")], True)


class LenStrTest(unittest.TestCase):
    def test_texts(self):
        desk = Desk("b")
        self.assertEqual((len(desk), str(desk)), (1, "1 letters, 0 edits"))
        desk.grow("a")
        self.assertEqual((len(desk), str(desk)), (2, "2 letters, 1 edits"))
        desk.shrink()
        self.assertEqual((len(desk), str(desk)), (1, "1 letters, 2 edits"))
        for kind in KINDS:
            self.assertEqual(str(kind("a" * 23 + "b")), "24 letters, 0 edits")
            self.assertTrue(kind("a"))


class AnyDeskTest(unittest.TestCase):
    """Desks after many drawn calls, against the model, a new desk, and one that is read."""

    def check(self, desk, model):
        told = state(desk)
        self.assertEqual(told, model.state())
        self.assertEqual(state(desk), told)
        for fresh in (type(desk)(desk.word), type(desk).read("word " + desk.word)):
            fresh.pattern = desk.pattern
            self.assertIs(type(fresh), type(desk))
            self.assertIs(fresh == desk and desk == fresh, True)
            self.assertIs(fresh < desk or desk < fresh, False)
            for name in ("word", "order", "pattern", "found", "len", "letters", "ranks"):
                self.assertEqual(state(fresh)[name], told[name])
            self.assertEqual(fresh.version, 0)
        for pattern in ("a", "ab", "b", desk.word, desk.word[-2:], "m"):
            self.assertEqual(desk(pattern), slow_finding(desk.word, pattern))
            self.assertIs(pattern in desk, bool(slow_places(desk.word, pattern)))

    def step(self, source, desk, model):
        """One drawn call of the desk and the model."""
        pick = source.random()
        if pick < 0.15:
            return outcome(desk.undo), model.outcome("undo")
        if pick < 0.3:
            desk.pattern = model.pattern = source.choice((None, "a", "ab", "ba", "b"))
            return None, None
        if pick < 0.45:
            edits = [drawn_edit(source, desk.word) for k in range(source.randrange(4))]
            return outcome(desk.run, edits), model.outcome("run", edits, None)
        if pick < 0.55:
            edits = [drawn_edit(source, desk.word) for k in range(source.randrange(4))]
            chosen = [source.choice((None, "a", "ab")) for edit in edits]
            left = list(chosen)
            told = outcome(desk.run, tuple(edits), on_step=lambda seen: seen.look(left.pop(0)))
            return told, model.outcome("run", edits, chosen)
        name, *values = drawn_edit(source, desk.word)
        return outcome(getattr(desk, name), *values), model.outcome(name, *values)

    def test_drawn_calls(self):
        source = random.Random(11)
        reached = dict.fromkeys(KINDS, 0)
        for kind in KINDS:
            words = drawn_words(12, 12) if kind in FREE_KINDS else simple_words(24, 13)
            for word in words:
                desk, model = kind(word), Model(kind, word)
                for at in range(60):
                    told, wanted = self.step(source, desk, model)
                    self.assertEqual(told, wanted)
                    self.check(desk, model)
                    reached[kind] = max(reached[kind], desk.version)
        self.assertGreater(min(reached.values()), 10, reached)

    def test_undo_restores_the_earlier_words(self):
        source = random.Random(14)
        for kind in KINDS:
            for word in simple_words(12, 15):
                desk = kind(word)
                for at in range(40):
                    outcome(desk.run, [drawn_edit(source, desk.word)])
                words = [desk.word_at(version) for version in range(desk.version + 1)]
                edits = desk.edits()
                for version in range(desk.version - 1, -1, -1):
                    self.assertEqual(desk.undo(), version)
                    self.assertEqual((desk.word, desk.edits()), (words[version], edits[:version]))
                self.assertEqual(desk.word, word)


if __name__ == "__main__":
    unittest.main()
