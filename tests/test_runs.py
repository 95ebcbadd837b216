import unittest

from tailranks.desks import Desk
from tailranks.errors import Busy, NoPlace, Rejected
from tests.desk_model import FREE_KINDS, KINDS, LOGGED_KINDS, Model, state
from tests.samples import STRANGE, outcome, slow_order, slow_places

# Edits that each kind of desk can do again and again.
GOOD = ("change", 0, "a")
NO_EDITS = STRANGE + (
    "grow", "shrink", ["shrink"], ["grow", "a"], ("grow",), ("shrink", 0), ("change", 0), ("undo",), ("run", ()), 0, 5,
    (("shrink",),), ("look", "a"), ("Grow", "a"), ("change", 0, "a", "a"), (5, "a"), (None,),
)


class Stop(Exception):
    """What on_step raises in the tests."""


class Exit(BaseException):
    """An exception that is not even an Exception."""


def raising(kind, at):
    """An on_step that raises an exception of this kind at its call with this number."""
    calls = []

    def on_step(desk):
        calls.append(desk.version)
        if len(calls) == at + 1:
            raise kind("stopped")
    return on_step


class RunTest(unittest.TestCase):
    def refused(self, desk, error, fields, edits, **named):
        """The run raises this error, twice, and the desk stays as it was."""
        before = state(desk)
        for again in range(2):
            self.assertEqual(outcome(desk.run, edits, **named), ("raised", error, fields), edits)
            self.assertEqual(state(desk), before)


class BatchTest(RunTest):
    def test_lists_and_tuples(self):
        edits = [("grow", "a"), ("change", 2, "c"), ("change", 1, "b"), ("shrink",)]
        for kind in KINDS:
            for batch in (edits, tuple(edits)):
                desk = kind("ab")
                desk.look("c")
                self.assertEqual(desk.run(batch), 4)
                self.assertEqual((desk.word, desk.version, desk.edits()), ("bc", 4, tuple(edits)))
                self.assertEqual((desk.pattern, desk.found), ("c", (1,)))
                self.assertEqual(batch, type(batch)(edits))

    def test_each_edit_can_be_undone_by_itself(self):
        for kind in KINDS:
            desk = kind("ab")
            desk.run([("grow", "a"), ("change", 2, "c"), ("change", 1, "b")])
            self.assertEqual([desk.undo(), desk.word, desk.undo(), desk.word], [2, "aac", 1, "aab"])
            self.assertEqual([desk.undo(), desk.word], [0, "ab"])

    def test_empty_batches(self):
        for kind in KINDS:
            desk = kind("ab")
            desk.grow("a")
            calls = []
            for batch in ([], ()):
                self.assertEqual(desk.run(batch), 1)
                self.assertEqual(desk.run(batch, on_step=calls.append), 1)
            self.assertEqual((calls, desk.word, desk.edits()), ([], "aab", (("grow", "a"),)))

    def test_twenty_and_twenty_one(self):
        for kind in KINDS:
            desk = kind("ab")
            self.assertEqual(desk.run([GOOD] * 20), 20)
            self.refused(desk, "BadEdits", (), [GOOD] * 21)
            self.refused(desk, "BadEdits", (), (GOOD,) * 21)
            self.refused(desk, "BadEdits", (), [5] * 21)
            self.refused(desk, "BadEdits", (), [("grow", 5)] * 1000)

    def test_values_that_are_no_batches(self):
        for kind in KINDS:
            desk = kind("ab")
            for value in STRANGE + (0, 5, "shrink", {"shrink": 1}, {"a": GOOD}):
                if not isinstance(value, (list, tuple)):
                    self.refused(desk, "BadEdits", (), value)

    def test_items_that_are_no_edits(self):
        for kind in KINDS:
            desk = kind("ab")
            desk.look("b")
            for item in NO_EDITS:
                for batch in ([item], (item,)):
                    self.refused(desk, "BadEdit", (0,), batch)
                self.refused(desk, "BadEdit", (2,), [GOOD, GOOD, item])
                self.refused(desk, "BadEdit", (19,), [GOOD] * 19 + [item])
                self.refused(desk, "BadEdit", (1,), [GOOD, item, GOOD, item])
            self.refused(desk, "BadEdit", (0,), GOOD)
            self.refused(desk, "BadEdit", (0,), ("shrink",))

    def test_bad_edit_before_rejected(self):
        for kind in KINDS:
            desk = kind("ab")
            self.refused(desk, "BadEdit", (1,), [("grow", 5), 5])
            self.refused(desk, "BadEdit", (2,), [("grow", 5), ("change", 9, "a"), None])

    def test_rejected(self):
        bad = (("grow", 5), ("grow", "A"), ("change", 9, "a"), ("change", True, "a"), ("change", 0, ""), ("change", [0], 5))
        for kind in KINDS:
            desk = kind("ab")
            desk.grow("a")
            desk.look("b")
            for edit in bad:
                self.refused(desk, "Rejected", (0,), [edit])
                self.refused(desk, "Rejected", (0,), (edit, GOOD))
                self.refused(desk, "Rejected", (1,), [("grow", "a"), edit])
                self.refused(desk, "Rejected", (3,), [("grow", "a"), ("change", 0, "a"), ("shrink",), edit, edit])
                self.refused(desk, "Rejected", (19,), [GOOD] * 19 + [edit])

    def test_rejected_at_both_ends(self):
        for kind in KINDS:
            desk = kind("b")
            self.refused(desk, "Rejected", (0,), [("shrink",)])
            self.refused(desk, "Rejected", (2,), [("grow", "a"), ("shrink",), ("shrink",)])
            desk = kind("a" * 22 + "b")
            self.refused(desk, "Rejected", (1,), [("grow", "a"), ("grow", "a")])

    def test_sixty_edits(self):
        for kind in KINDS:
            desk = kind("ab")
            for version in (20, 40):
                self.assertEqual(desk.run([GOOD] * 20), version)
            desk.change(0, "a")
            self.refused(desk, "Rejected", (19,), [GOOD] * 20)
            self.assertEqual(desk.run([GOOD] * 19), 60)
            self.refused(desk, "Rejected", (0,), [GOOD])
            self.refused(desk, "Rejected", (0,), [("grow", 5)])
            self.refused(desk, "BadEdit", (0,), [5])
            self.refused(desk, "BadEdits", (), 5)
            self.assertEqual(desk.run([]), 60)
            desk.undo()
            self.refused(desk, "Rejected", (1,), [GOOD, GOOD])
            self.assertEqual(desk.run([GOOD]), 60)

    def test_arguments_stay(self):
        desk = Desk("ab")
        edits = [("grow", "a"), ("change", [0, {"a": [1]}], "a")]
        self.refused(desk, "Rejected", (1,), edits)
        self.assertEqual(edits, [("grow", "a"), ("change", [0, {"a": [1]}], "a")])

    def test_later_changes_of_the_list(self):
        desk = Desk("ab")
        edits = [("grow", "a")]
        desk.run(edits)
        edits.append(("shrink",))
        edits[0] = ("grow", "z")
        self.assertEqual(desk.edits(), (("grow", "a"),))


class OnStepTest(RunTest):
    def test_called_after_each_edit_with_this_desk(self):
        for kind in KINDS:
            desk = kind("ab")
            desk.grow("a")
            desk.look("c")
            seen = []

            def on_step(passed):
                self.assertIs(passed, desk)
                seen.append(state(passed))
                self.assertIs(passed == kind(passed.word), True)
                self.assertIs("a" in passed or "b" in passed, True)
                self.assertEqual(passed("a")[0], "places" if "a" in passed.word else "between")
                self.assertIs(passed < Desk("z"), True)
                return "not used"

            edits = [("grow", "a"), ("change", 3, "c"), ("change", 2, "b"), ("shrink",)]
            log = desk.log if kind in LOGGED_KINDS else None
            self.assertEqual(desk.run(edits, on_step=on_step), 5)
            self.assertEqual([row["word"] for row in seen], ["aaab", "aaac", "aabc", "abc"])
            self.assertEqual([row["version"] for row in seen], [2, 3, 4, 5])
            self.assertEqual([row["found"] for row in seen], [(), (3,), (3,), (2,)])
            for many, row in enumerate(seen):
                self.assertEqual(row["edits"], (("grow", "a"),) + tuple(edits[:many + 1]))
                self.assertEqual(row["order"], slow_order(row["word"]))
                self.assertEqual(row["str"], "%d letters, %d edits" % (len(row["word"]), many + 2))
                self.assertEqual(row["log"], log)
            self.assertEqual(desk.word, "abc")

    def test_none(self):
        for kind in KINDS:
            desk = kind("ab")
            self.assertEqual(desk.run([("grow", "a")], on_step=None), 1)

    def test_keyword_only(self):
        with self.assertRaises(TypeError):
            Desk("ab").run([], None)

    def test_busy_before_any_other_error(self):
        for kind in KINDS:
            desk = kind("ab")
            told = []

            def on_step(passed):
                before = state(passed)
                for action, *values in (
                    (passed.change, 0, "a"), (passed.change, None, None), (passed.change, 0, 5), (passed.grow, "a"),
                    (passed.grow, 5), (passed.shrink,), (passed.undo,), (passed.run, []), (passed.run, 5),
                    (passed.run, [5]), (passed.run, [("grow", "a")]), (passed.run, [("grow", 5)]),
                ):
                    told.append(outcome(action, *values))
                    self.assertEqual(state(passed), before)

            self.assertEqual(desk.run([("grow", "a"), ("change", 1, "a")], on_step=on_step), 2)
            self.assertEqual(told, [("raised", "Busy", ())] * 24)
            self.assertEqual((desk.word, desk.version), ("aab", 2))
            self.assertEqual([desk.grow("a"), desk.undo(), desk.undo(), desk.run([])], [3, 2, 1, 1])

    def test_busy_with_sixty_edits(self):
        for kind in KINDS:
            desk = kind("ab")
            for at in range(59):
                desk.change(0, "a")
            told = []
            desk.run([GOOD], on_step=lambda passed: told.append(outcome(passed.change, 0, "a")))
            self.assertEqual(told, [("raised", "Busy", ())])
            self.assertEqual(outcome(desk.change, 0, "a"), ("raised", "TooManyEdits", ()))

    def test_busy_that_is_not_caught(self):
        for kind in KINDS:
            for name, values in (("grow", ("a",)), ("undo", ()), ("run", ([],)), ("shrink", ()), ("change", (0, "a"))):
                desk = kind("ab")
                desk.grow("a")
                before = state(desk)
                with self.assertRaises(Busy):
                    desk.run([("grow", "a")], on_step=lambda passed: getattr(passed, name)(*values))
                self.assertEqual(state(desk), before)
                self.assertEqual(desk.grow("a"), 2)

    def test_other_desks_and_copies_are_free(self):
        for kind in KINDS:
            desk, other = kind("ab"), kind("ab")
            told = []

            def on_step(passed):
                twin = passed.copy()
                told.append([twin.grow("a"), twin.undo(), twin.run([("grow", "a")])])
                told.append([other.grow("a"), other.undo(), other.run([("grow", "a")]), other.undo()])

            desk.run([("grow", "a"), ("grow", "a")], on_step=on_step)
            self.assertEqual(told, [[2, 1, 2], [1, 0, 1, 0], [3, 2, 3], [1, 0, 1, 0]])
            self.assertEqual((desk.word, other.word), ("aaab", "ab"))

    def test_two_desks_that_run(self):
        for kind in KINDS:
            desk, other = kind("ab"), kind("ab")
            told = []

            def inner(passed):
                self.assertIs(passed, other)
                told.append((outcome(desk.grow, "a"), outcome(other.grow, "a")))

            def outer(passed):
                self.assertIs(passed, desk)
                told.append(other.run([("grow", "a")], on_step=inner))
                told.append((outcome(desk.undo), outcome(other.undo)))

            self.assertEqual(desk.run([("grow", "a")], on_step=outer), 1)
            busy = ("raised", "Busy", ())
            self.assertEqual(told, [(busy, busy), 1, (busy, ("returned", 0))])
            self.assertEqual((desk.word, other.word), ("aab", "ab"))
            self.assertEqual([desk.undo(), other.grow("a")], [0, 1])

    def test_exceptions_propagate(self):
        kinds = (Stop, Exit, ValueError, KeyError, TypeError, StopIteration, KeyboardInterrupt, SystemExit, RuntimeError,
                 GeneratorExit, Rejected, NoPlace)
        edits = [("grow", "a"), ("change", 1, "a"), ("grow", "a")]
        for kind in KINDS:
            for error in kinds:
                for at in range(3):
                    desk = kind("ab")
                    desk.run([("grow", "a"), ("grow", "a")])
                    desk.look("ab")
                    before = state(desk)
                    for again in range(2):
                        with self.assertRaises(error) as caught:
                            desk.run(edits, on_step=raising(error, at))
                        self.assertIs(type(caught.exception), error)
                        self.assertEqual(state(desk), before)
                    self.assertEqual([desk.undo(), desk.word, desk.run(edits), desk.undo()], [1, "aab", 4, 3])

    def test_the_very_exception(self):
        stop = Stop("why", 5)

        def on_step(passed):
            raise stop

        with self.assertRaises(Stop) as caught:
            Desk("ab").run([("grow", "a")], on_step=on_step)
        self.assertIs(caught.exception, stop)

    def test_errors_behind_on_step(self):
        """An edit that is rejected after on_step ran undoes what was done before."""
        for kind in KINDS:
            desk = kind("ab")
            desk.look("b")
            before = state(desk)
            words = []

            def on_step(passed):
                words.append(passed.word)
                passed.pattern = "a"

            edits = [("grow", "a"), ("grow", "a"), ("grow", "A"), ("grow", "a")]
            self.assertEqual(outcome(desk.run, edits, on_step=on_step), ("raised", "Rejected", (2,)))
            self.assertEqual(words, ["aab", "aaab"])
            self.assertEqual(state(desk), before)
            self.assertEqual(desk.grow("a"), 1)

    def test_no_call_if_the_batch_is_bad(self):
        for kind in KINDS:
            desk = kind("ab")
            calls = []
            for edits in (5, [GOOD] * 21, [GOOD, 5], [("grow", 5), GOOD]):
                self.assertEqual(outcome(desk.run, edits, on_step=calls.append)[0], "raised")
            self.assertEqual(calls, [])

    def test_patterns_that_it_chooses(self):
        for kind in KINDS:
            for before in (None, "b"):
                desk = kind("ab")
                desk.pattern = before
                chosen = ["a", None, "ab", "aa"]
                told = []
                choose = lambda passed: told.append(passed.look(chosen.pop(0)))
                self.assertEqual(desk.run([("grow", "a")] * 4, on_step=choose), 4)
                self.assertEqual(told, [(0, 1), None, (3,), (0, 1, 2, 3)])
                self.assertEqual((desk.pattern, desk.found), ("aa", (0, 1, 2, 3)))
                self.assertEqual([desk.undo(), desk.pattern], [3, "aa"])

    def test_patterns_and_exceptions(self):
        for kind in KINDS:
            for before in (None, "b"):
                desk = kind("ab")
                desk.pattern = before

                def on_step(passed):
                    passed.pattern = "a"
                    self.assertEqual(outcome(passed.look, "A"), ("raised", "BadWord", ((0, "letter"),)))
                    self.assertEqual(outcome(passed.grow, "a"), ("raised", "Busy", ()))
                    self.assertEqual(passed.pattern, "a")
                    if passed.version == 2:
                        raise Stop()

                with self.assertRaises(Stop):
                    desk.run([("grow", "a")] * 3, on_step=on_step)
                self.assertEqual((desk.pattern, desk.word), (before, "ab"))
                self.assertEqual(desk.run([("grow", "a")], on_step=on_step), 1)
                self.assertEqual((desk.pattern, desk.found), ("a", (0, 1)))

    def test_bad_pattern_that_is_not_caught(self):
        for kind in KINDS:
            desk = kind("ab")
            before = state(desk)
            told = outcome(desk.run, [("grow", "a")], on_step=lambda passed: passed.look(5))
            self.assertEqual(told, ("raised", "BadWord", ((None, "word"),)))
            self.assertEqual(state(desk), before)

    def test_changes_of_the_list_while_it_runs(self):
        for kind in KINDS:
            for change in (list.clear, lambda edits: edits.append(("grow", "c")), lambda edits: edits.insert(0, 5)):
                edits = [("grow", "a"), ("change", 1, "a"), ("change", 2, "c")]
                done = tuple(edits)
                desk = kind("ab")
                words = []

                def on_step(passed):
                    words.append(passed.word)
                    change(edits)

                self.assertEqual(desk.run(edits, on_step=on_step), 3)
                self.assertEqual((words, desk.word, desk.edits()), (["aab", "aab", "aac"], "aac", done))

    def test_callable_objects(self):
        class Step:
            def __init__(self):
                self.versions = []

            def __call__(self, desk):
                self.versions.append(desk.version)

        step = Step()
        Desk("ab").run([("grow", "a")] * 3, on_step=step)
        self.assertEqual(step.versions, [1, 2, 3])


class CopyTest(unittest.TestCase):
    def test_same_desk(self):
        for kind in KINDS:
            desk = kind("ab")
            desk.run([("grow", "a"), ("change", 2, "c")])
            desk.grow("a")
            desk.undo()
            desk.look("c")
            twin = desk.copy()
            self.assertIs(type(twin), kind)
            self.assertIsNot(twin, desk)
            self.assertEqual(state(twin), state(desk))
            self.assertIs(twin == desk, True)
            self.assertEqual(state(twin.copy()), state(desk))

    def test_independent(self):
        for kind in KINDS:
            for first in (0, 1):
                desk = kind("ab")
                desk.grow("a")
                desk.look("b")
                pair = [desk, desk.copy()]
                one, other = pair[first], pair[1 - first]
                before = state(other)
                one.grow("a")
                one.undo()
                one.undo()
                one.look("a")
                one.run([("change", 1, "c"), ("grow", "a")])
                self.assertEqual(state(other), before)
                self.assertEqual([other.undo(), other.word, other.pattern], [0, "ab", "b"])
                self.assertEqual((one.word, one.version, one.pattern), ("aac", 2, "a"))

    def test_undo_of_a_copy(self):
        for kind in KINDS:
            desk = kind("ab")
            for at in range(60):
                desk.change(0, "a")
            twin = desk.copy()
            self.assertEqual(outcome(twin.grow, "a"), ("raised", "TooManyEdits", ()))
            for version in range(59, -1, -1):
                self.assertEqual(twin.undo(), version)
            self.assertEqual(outcome(twin.undo), ("raised", "NothingToUndo", ()))
            self.assertEqual(desk.version, 60)

    def test_while_on_step_runs(self):
        for kind in KINDS:
            desk = kind("ab")
            desk.grow("a")
            desk.look("b")
            twins, states = [], []

            def on_step(passed):
                twins.append(passed.copy())
                states.append(state(passed))
                twins[-1].pattern = "a"
                self.assertEqual(passed.pattern, "b")
                if passed.version == 4:
                    raise Stop()

            with self.assertRaises(Stop):
                desk.run([("grow", "a"), ("change", 1, "a"), ("grow", "a")], on_step=on_step)
            self.assertEqual((desk.word, desk.version), ("aab", 1))
            for many, (twin, seen) in enumerate(zip(twins, states)):
                self.assertEqual(twin.version, many + 2)
                twin.pattern = "b"
                self.assertEqual(state(twin), seen)
                self.assertEqual(twin.grow("a"), many + 3)
                for version in range(many + 2, -1, -1):
                    self.assertEqual(twin.undo(), version)
                self.assertEqual(twin.word, "ab")

    def test_copies_that_run_while_on_step_runs(self):
        for kind in KINDS:
            desk = kind("ab")
            told = []

            def inner(passed):
                told.append((outcome(passed.grow, "a"), outcome(desk.grow, "a")))

            desk.run([("grow", "a")], on_step=lambda passed: passed.copy().run([("grow", "a")], on_step=inner))
            self.assertEqual(told, [(("raised", "Busy", ()), ("raised", "Busy", ()))])
            self.assertEqual((desk.word, desk.version), ("aab", 1))


class FailureTest(unittest.TestCase):
    """After each failure the desk is as the model is, which did nothing."""

    def test_each_failure(self):
        for kind in FREE_KINDS:
            for word in ("b", "banana", "a" * 23 + "b"):
                desk, model = kind(word), Model(kind, word)
                for edit in (("change", 0, "c"), ("change", len(word) - 1, "d")):
                    desk.change(*edit[1:])
                    model.outcome(*edit)
                desk.pattern = model.pattern = "d"
                for edits in (None, [None], [("change", 0, "a"), ("change", 24, "a")], [("grow", "a")] * 20 + [5],
                              [("shrink",)] * 20 + [("grow", "")], [("change", 0, "a"), ("grow", "")]):
                    self.assertEqual(outcome(desk.run, edits)[0], "raised")
                    self.assertEqual(state(desk), model.state())
                self.assertEqual(desk.found, slow_places(desk.word, "d"))


if __name__ == "__main__":
    unittest.main()
