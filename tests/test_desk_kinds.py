"""SimpleDesk, LoggedDesk and LoggedSimpleDesk."""

import inspect
import itertools
import unittest

from tailranks.consoles import Console
from tailranks.desks import Desk, LoggedDesk, LoggedSimpleDesk, SimpleDesk
from tests.desk_model import FREE_KINDS, KINDS, LOGGED_KINDS, NO_LETTERS, SIMPLE_KINDS, simple_words, state
from tests.samples import drawn_words, long_words, no_indexes, outcome, short_words, slow_order, slow_simple


class SimpleDeskTest(unittest.TestCase):
    def check(self, kind, action, word, told):
        """The outcome is NotSimple exactly if the word that would result is not simple."""
        if slow_simple(word):
            self.assertEqual(told[0], "returned", word)
        else:
            self.assertEqual(repr(told), repr(("raised", "NotSimple", (slow_order(word)[0],))), word)

    def test_constructor_and_read(self):
        words = itertools.chain(short_words("ab", 6), short_words("abc", 4), long_words(), drawn_words(200, 16))
        for word in words:
            for kind in SIMPLE_KINDS:
                self.check(kind, "new", word, outcome(kind, word))
                self.check(kind, "read", word, outcome(kind.read, "word " + word))
            for kind in FREE_KINDS:
                self.assertEqual(kind(word).word, word)

    def refused_or_done(self, desk, word, name, *values):
        """The edit, by itself and within a run, accepts exactly simple words."""
        before = state(desk)
        twin = desk.copy()
        told = outcome(getattr(desk, name), *values)
        self.check(type(desk), name, word, told)
        ran = outcome(twin.run, [(name,) + values])
        if told[0] == "raised":
            self.assertEqual(state(desk), before)
            self.assertEqual(state(twin), before)
            self.assertEqual(ran, ("raised", "Rejected", (0,)))
        else:
            self.assertEqual((desk.word, twin.word), (word, word))
            self.assertEqual(ran, told)
            self.assertEqual(outcome(desk.undo), ("returned", before["version"]))
            self.assertEqual(desk.word, before["word"])

    def test_change(self):
        for kind in SIMPLE_KINDS:
            for word in simple_words(30, 17):
                for place in {0, 1 % len(word), len(word) // 2, len(word) - 1}:
                    for letter in {"a", "b", "z", word[place]}:
                        changed = word[:place] + letter + word[place + 1:]
                        self.refused_or_done(kind(word), changed, "change", place, letter)

    def test_grow(self):
        for kind in SIMPLE_KINDS:
            for word in simple_words(40, 18):
                if len(word) < 24:
                    for letter in "abcz":
                        self.refused_or_done(kind(word), letter + word, "grow", letter)

    def test_shrink(self):
        for kind in SIMPLE_KINDS:
            for word in simple_words(60, 19):
                if len(word) > 1:
                    self.refused_or_done(kind(word), word[1:], "shrink")

    def test_after_the_other_errors(self):
        for kind in SIMPLE_KINDS:
            self.assertEqual(outcome(kind, "bA"), ("raised", "BadWord", ((1, "letter"),)))
            self.assertEqual(outcome(kind, "b" * 25), ("raised", "BadWord", ((None, "word"),)))
            desk = kind("a" * 23 + "b")
            self.assertEqual(outcome(desk.grow, "z"), ("raised", "TooLong", (24,)))
            for place in no_indexes(24):
                self.assertEqual(outcome(desk.change, place, "z")[1], "NoPlace")
            for letter in NO_LETTERS:
                self.assertEqual(outcome(desk.change, 0, letter)[1], "BadLetter")
                self.assertEqual(outcome(desk.grow, letter)[1], "BadLetter")
            for at in range(60):
                desk.change(23, "b")
            for action, *values in ((desk.change, 0, "z"), (desk.grow, "z"), (desk.shrink,)):
                self.assertEqual(outcome(action, *values), ("raised", "TooManyEdits", ()))
            self.assertEqual(outcome(kind("b").shrink), ("raised", "LastLetter", ()))

    def test_within_run(self):
        for kind in SIMPLE_KINDS:
            desk = kind("ab")
            desk.look("b")
            before = state(desk)
            # A later edit would make the word simple again.
            edits = [("grow", "a"), ("grow", "b"), ("grow", "a")]
            self.assertEqual(outcome(desk.run, edits), ("raised", "Rejected", (1,)))
            self.assertEqual(state(desk), before)
            edits = [("change", 1, "a"), ("change", 1, "b")]
            self.assertEqual(outcome(desk.run, edits), ("raised", "Rejected", (0,)))
            self.assertEqual(state(desk), before)
            words = []
            edits = [("change", 1, "c"), ("change", 0, "b"), ("change", 0, "d"), ("change", 1, "d")]
            told = outcome(desk.run, edits, on_step=lambda passed: words.append(passed.word))
            self.assertEqual((told, words), (("raised", "Rejected", (2,)), ["ac", "bc"]))
            self.assertEqual(state(desk), before)

    def test_undo_and_copy(self):
        for kind in SIMPLE_KINDS:
            for word in simple_words(20, 20):
                desk = kind(word)
                words = [word]
                for letter in "zyxba":
                    for action, *values in ((desk.grow, letter), (desk.change, 0, letter), (desk.change, len(desk) - 1, letter)):
                        if outcome(action, *values)[0] == "returned":
                            words.append(desk.word)
                twin = desk.copy()
                while words:
                    self.assertEqual((desk.word, twin.word, desk.copy().word), (words[-1],) * 3)
                    self.assertTrue(slow_simple(desk.word))
                    words.pop()
                    if words:
                        self.assertEqual((desk.undo(), twin.undo()), (len(words) - 1,) * 2)

    def test_busy_comes_first(self):
        for kind in SIMPLE_KINDS:
            told = []
            kind("ab").run([("grow", "a")], on_step=lambda passed: told.append(outcome(passed.grow, "z")))
            self.assertEqual(told, [("raised", "Busy", ())])


class LoggedDeskTest(unittest.TestCase):
    def test_rows(self):
        for kind in LOGGED_KINDS:
            desk = kind("ab")
            self.assertEqual(repr(desk.log), "()")
            rows = []
            for name, *values in (("grow", "a"), ("change", 1, "a"), ("undo",), ("change", 2, "c"), ("shrink",), ("run", []),
                                  ("run", [("grow", "a"), ("change", 2, "b")]), ("undo",), ("undo",), ("run", ()),
                                  ("run", (("grow", "a"),)), ("undo",), ("undo",), ("undo",), ("undo",)):
                version = getattr(desk, name)(*values)
                self.assertEqual(version, desk.version)
                rows.append((name, version))
                self.assertEqual(repr(desk.log), repr(tuple(rows)))
            self.assertEqual((desk.word, desk.version), ("ab", 0))

    def test_rows_that_were_read_stay(self):
        for kind in LOGGED_KINDS:
            desk = kind("ab")
            desk.grow("a")
            rows = desk.log
            desk.undo()
            self.assertEqual(rows, (("grow", 1),))

    def test_no_rows(self):
        for kind in LOGGED_KINDS:
            desk = kind("ab")
            desk.grow("a")
            rows = desk.log
            desk.look("a")
            desk.pattern = None
            for action, *values in ((desk.look, 5), (desk.grow, 5), (desk.change, 9, "a"), (desk.change, 0, 5), (desk.run, 5),
                                    (desk.run, [5]), (desk.run, [("grow", "a"), ("grow", 5)]), (desk.rank_of, 9)):
                self.assertEqual(outcome(action, *values)[0], "raised")
                self.assertEqual(desk.log, rows)
            self.assertEqual((desk.rank_of(0), desk.word_at(0), desk.edits(), len(list(desk.walk()))), (0, "ab", (("grow", "a"),), 2))
            self.assertEqual((desk[0], "a" in desk, desk < Desk("b"), desk("b"), len(desk)), ("a", True, True, ("places", 2, 3), 3))
            self.assertEqual(desk.log, rows)
            desk.undo()
            self.assertEqual(outcome(desk.undo), ("raised", "NothingToUndo", ()))
            self.assertEqual(desk.log, rows + (("undo", 0),))
            single = kind("b")
            self.assertEqual(outcome(single.shrink), ("raised", "LastLetter", ()))
            self.assertEqual(single.log, ())

    def test_during_on_step(self):
        for kind in LOGGED_KINDS:
            desk = kind("ab")
            desk.grow("a")
            logs = []

            def on_step(passed):
                passed.look("a")
                logs.append((passed.log, passed.copy().log))
                self.assertEqual(outcome(passed.undo), ("raised", "Busy", ()))

            desk.run([("grow", "a"), ("grow", "a")], on_step=on_step)
            self.assertEqual(logs, [((("grow", 1),),) * 2] * 2)
            self.assertEqual(desk.log, (("grow", 1), ("run", 3)))

    def test_exceptions(self):
        for kind in LOGGED_KINDS:
            desk = kind("ab")
            for error in (KeyError, KeyboardInterrupt):
                def on_step(passed):
                    raise error()

                with self.assertRaises(error):
                    desk.run([("grow", "a")], on_step=on_step)
                self.assertEqual(desk.log, ())
            self.assertEqual([desk.run([("grow", "a")]), desk.log], [1, (("run", 1),)])

    def test_copy(self):
        for kind in LOGGED_KINDS:
            desk = kind("ab")
            desk.grow("a")
            desk.undo()
            twin = desk.copy()
            self.assertEqual(twin.log, (("grow", 1), ("undo", 0)))
            twin.grow("a")
            desk.run([])
            self.assertEqual(twin.log, (("grow", 1), ("undo", 0), ("grow", 1)))
            self.assertEqual(desk.log, (("grow", 1), ("undo", 0), ("run", 0)))

    def test_copy_made_while_on_step_runs(self):
        for kind in LOGGED_KINDS:
            desk = kind("ab")
            twins = []

            def on_step(passed):
                twins.append(passed.copy())
                twins[-1].grow("a")

            desk.run([("grow", "a"), ("grow", "a")], on_step=on_step)
            self.assertEqual([twin.log for twin in twins], [(("grow", 2),), (("grow", 3),)])
            self.assertEqual(desk.log, (("run", 2),))

    def test_more_rows_than_edits(self):
        desk = LoggedDesk("ab")
        for at in range(100):
            desk.grow("a")
            desk.undo()
        self.assertEqual(desk.log, (("grow", 1), ("undo", 0)) * 100)

    def test_other_desks_have_no_log(self):
        for kind in (Desk, SimpleDesk):
            self.assertFalse(hasattr(kind("ab"), "log"))


class LoggedMethodsTest(unittest.TestCase):
    """The methods that add rows, with calls that raise between those that do not."""

    NAMES = ("change", "grow", "shrink", "undo", "run")
    # Each of them, with good values and with values that raise another error where the desk is not busy.
    CALLS = (
        ("change", 0, "a"), ("change", 9, "a"), ("change", 0, 5), ("grow", "a"), ("grow", 5), ("shrink",), ("undo",),
        ("run", []), ("run", [("grow", "a")]), ("run", [("grow", 5)]), ("run", [5]), ("run", 5),
    )

    def follow(self, desk, *calls):
        """Do the calls; each returns the version, or raises the error, with which its row here begins."""
        rows = list(desk.log)
        for told, name, *values in calls:
            got = outcome(getattr(desk, name), *values)
            if isinstance(told, tuple):
                self.assertEqual(got, ("raised",) + told, (name, values))
            else:
                self.assertEqual(repr(got), repr(("returned", told)), (name, values))
                rows.append((name, told))
            self.assertEqual(repr(desk.log), repr(tuple(rows)), (name, values))

    def test_methods_stand_in_the_body(self):
        for name in self.NAMES:
            self.assertIn(name, vars(LoggedDesk))
            method = vars(LoggedDesk)[name]
            self.assertTrue(inspect.isfunction(method), name)
            self.assertEqual(method.__qualname__, "LoggedDesk." + name)
            self.assertEqual(inspect.signature(method), inspect.signature(vars(Desk)[name]))
            self.assertIs(getattr(LoggedSimpleDesk, name), method)

    def test_errors_between_rows(self):
        for kind in LOGGED_KINDS:
            desk = kind("ab")
            self.follow(
                desk,
                (("NothingToUndo", ()), "undo"), (1, "grow", "a"), (("BadLetter", (5,)), "grow", 5),
                (("NoPlace", (9,)), "change", 9, "a"), (2, "change", 1, "b"), (("BadLetter", ("A",)), "change", 0, "A"),
                (2, "run", []), (("BadEdits", ()), "run", 5), (("BadEdits", ()), "run", [("shrink",)] * 21),
                (2, "run", ()), (("BadEdit", (0,)), "run", [5]), (("BadEdit", (1,)), "run", [("grow", "a"), ("undo",)]),
                (("Rejected", (1,)), "run", [("grow", "a"), ("grow", 5)]), (4, "run", [("grow", "a"), ("shrink",)]),
                (3, "undo"), (("Rejected", (0,)), "run", [("change", None, "a")]), (4, "shrink"), (3, "undo"), (2, "undo"),
                (1, "undo"), (0, "undo"), (("NothingToUndo", ()), "undo"), (1, "shrink"), (("LastLetter", ()), "shrink"),
                (("Rejected", (0,)), "run", [("shrink",)]), (2, "run", [("grow", "a")]), (3, "change", 1, "c"),
            )
            self.assertEqual((desk.word, desk.version, len(desk.log)), ("ac", 3, 14))

    def test_long_words(self):
        for kind in LOGGED_KINDS:
            desk = kind("a" * 23 + "b")
            self.follow(
                desk,
                (("TooLong", (24,)), "grow", "a"), (1, "change", 23, "c"), (("TooLong", (24,)), "grow", "a"),
                (("Rejected", (0,)), "run", [("grow", "a")]), (2, "shrink"), (("BadLetter", ("",)), "grow", ""), (3, "grow", "a"),
            )

    def test_sixty_edits(self):
        full = ("TooManyEdits", ())
        same = ("change", 0, "a")
        for kind in LOGGED_KINDS:
            desk = kind("ab")
            for version in (20, 40, 60):
                self.follow(desk, (version, "run", [same] * 20), (version, "run", []))
            self.follow(
                desk,
                (full,) + same, (full, "grow", "a"), (full, "shrink"), (("Rejected", (0,)), "run", [same]), (60, "run", []),
                (59, "undo"), (("Rejected", (1,)), "run", [same] * 2), (60,) + same, (full,) + same, (59, "undo"),
                (60, "run", [same]),
            )

    def test_words_that_are_not_simple(self):
        desk = LoggedSimpleDesk("aab")
        self.follow(
            desk,
            (("NotSimple", (1,)), "grow", "b"), (("NotSimple", (1,)), "change", 0, "c"), (1, "shrink"), (0, "undo"),
            (("Rejected", (1,)), "run", [("grow", "a"), ("grow", "c")]), (1, "grow", "a"), (("NotSimple", (1,)), "grow", "c"),
            (2, "run", [("change", 3, "c")]), (("NotSimple", (3,)), "change", 3, "a"), (1, "undo"), (2, "change", 2, "b"),
            (3, "shrink"), (("NotSimple", (1,)), "shrink"), (("Rejected", (0,)), "run", [("shrink",)]), (3, "run", []),
        )
        self.assertEqual(desk.word, "abb")
        desk = LoggedDesk("aab")
        self.follow(
            desk,
            (1, "grow", "b"), (2, "change", 0, "c"), (4, "run", [("grow", "a"), ("grow", "c")]), (3, "undo"), (4, "shrink"),
        )
        self.assertEqual(desk.word, "caab")

    def test_busy(self):
        for kind in LOGGED_KINDS:
            desk = kind("ab")
            desk.grow("a")
            logs = []

            def on_step(passed):
                for name, *values in self.CALLS:
                    self.assertEqual(outcome(getattr(passed, name), *values), ("raised", "Busy", ()))
                    logs.append(passed.log)

            self.assertEqual(desk.run([("grow", "a"), ("change", 0, "a")], on_step=on_step), 3)
            self.assertEqual(logs, [(("grow", 1),)] * (2 * len(self.CALLS)))
            self.assertEqual(desk.log, (("grow", 1), ("run", 3)))
            self.follow(desk, (2, "undo"), (3, "grow", "a"), (3, "run", []))

    def test_busy_that_is_not_caught(self):
        for kind in LOGGED_KINDS:
            desk = kind("ab")
            for name, *values in self.CALLS:
                rows = desk.log
                action = getattr(desk, name)
                told = outcome(desk.run, [("grow", "a")], on_step=lambda passed: action(*values))
                self.assertEqual((told, desk.log), (("raised", "Busy", ()), rows))
                self.follow(desk, (0, "run", []))

    def test_edits_of_a_run_that_on_step_stops(self):
        for kind in LOGGED_KINDS:
            desk = kind("ab")
            logs = []

            def on_step(passed):
                logs.append(passed.log)
                if len(logs) in (2, 3):
                    raise KeyError(len(logs))

            edits = [("grow", "a"), ("change", 0, "a"), ("shrink",)]
            self.follow(desk, (1, "grow", "a"))
            for again in range(2):
                self.assertRaises(KeyError, desk.run, edits, on_step=on_step)
                self.assertEqual((desk.log, desk.version), ((("grow", 1),), 1))
            self.assertEqual(desk.run(edits, on_step=on_step), 4)
            self.assertEqual(logs, [(("grow", 1),)] * 6)
            self.assertEqual(desk.log, (("grow", 1), ("run", 4)))

    def test_two_logged_desks(self):
        for kind in LOGGED_KINDS:
            desk, other = kind("ab"), kind("ab")
            desk.run([("grow", "a")] * 2, on_step=lambda passed: [other.grow("a"), outcome(other.grow, 5), other.undo()])
            self.assertEqual(desk.log, (("run", 2),))
            self.assertEqual(other.log, (("grow", 1), ("undo", 0)) * 2)

    def test_console(self):
        for kind in LOGGED_KINDS:
            desk = kind("ab")
            console = Console(desk)
            lines = (
                "undo", "grow a", "grow A", "look a", "change 2 c", "change 9 a", "change 0 5", "shrink", "shrink 1", "run",
                "word", "undo", "log", 5, "found",
            )
            for line in lines:
                console.execute(line)
            self.assertEqual(desk.log, (("grow", 1), ("change", 2), ("shrink", 3), ("undo", 2)))


class LoggedSimpleDeskTest(unittest.TestCase):
    def test_both(self):
        desk = LoggedSimpleDesk("ab")
        self.assertEqual(desk.grow("a"), 1)
        self.assertEqual(outcome(desk.grow, "b"), ("raised", "NotSimple", (1,)))
        self.assertEqual(outcome(desk.run, [("grow", "a"), ("grow", "b")]), ("raised", "Rejected", (1,)))
        self.assertEqual(desk.log, (("grow", 1),))
        self.assertEqual(desk.run([("grow", "a")]), 2)
        self.assertEqual(desk.log, (("grow", 1), ("run", 2)))
        self.assertEqual((desk.word, desk.copy().log), ("aaab", desk.log))

    def test_kinds(self):
        for kind in KINDS:
            desk = kind("ab")
            self.assertIs(isinstance(desk, Desk), True)
            self.assertIs(isinstance(desk, SimpleDesk), kind in SIMPLE_KINDS)
            self.assertIs(isinstance(desk, LoggedDesk), kind in LOGGED_KINDS)
            self.assertIs(type(desk.copy()), kind)


if __name__ == "__main__":
    unittest.main()
