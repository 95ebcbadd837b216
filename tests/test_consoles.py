import random
import unittest

from tailranks.consoles import Console
from tailranks.desks import Desk, SimpleDesk
from tailranks.heads import count_parts
from tests.desk_model import FREE_KINDS, KINDS, SIMPLE_KINDS, state
from tests.samples import STRANGE, long_words, outcome, slow_factors, slow_order, slow_places

NO_COMMANDS = (
    # the empty text, and spaces where none belongs
    "", " ", "  ", " word", "word ", "word  ", "  word", " grow b", "grow b ", "grow  b", "grow ", "grow  ", "look ",
    "look  an", "look an ", "change 0  b", "change  0 b", "change 0 b ", " change 0 b", "change 0 ", "rank ", "rank  1", "rank 1 ",
    "shrink ", "undo ", "found ", "parts ", "factors ", "order ",
    # additional and missing words
    "grow", "look", "change", "change 0", "change b", "rank", "shrink 0", "shrink a", "undo 1", "word a", "order 1",
    "found a", "parts 1", "factors b", "grow b c", "look an na", "change 0 b c", "change 0 0 b", "rank 1 2", "rank 1 a",
    # numbers
    "change 00 b", "change 01 b", "rank 00", "rank 01", "rank 007", "rank +1", "rank -1", "rank -0", "change -1 b", "change +1 b",
    "rank 1_0", "rank 1_", "change 1_0 b", "rank 1000", "rank 0000", "rank 9999", "change 1000 b", "change 1234 b", "rank 1.0",
    "rank a", "rank 1a", "rank a1", "change a b", "rank 0x1", "rank 1e1", "rank None", "rank True", "rank (1)", "rank '1'",
    # capitals and other words
    "Word", "WORD", "Shrink", "Grow b", "GROW b", "Look an", "Rank 1", "Change 0 b", "Undo", "run", "copy", "edits", "version",
    "pattern", "look_an", "help", "exit", "history", "log", "words", "wor", "growb", "rank1", "b", "an", "execute word",
    # line feeds
    "\n", "word\n", "\nword", "shrink\n", "undo\n", "order\n", "found\n", "parts\n", "factors\n", "rank 1\n", "rank\n1", "rank \n1",
    "grow\nb", "look\nan", "change\n0 b", "change 0\nb", "change 0\n b", "change \n0 b", "word\nword", "\ngrow b", "x" * 2000,
    "word\t", "grow\tb",
)
NO_TEXTS = tuple(value for value in STRANGE if not isinstance(value, str)) + (
    0, 5, ["word"], ("word",), {"word": 1}, ("grow", "b"), ["grow b"], b"word", Desk("a"),
)


class CommandsTest(unittest.TestCase):
    def test_edits(self):
        for kind in FREE_KINDS:
            desk = kind("anana")
            console = Console(desk)
            lines = ("grow b", "change 5 d", "change 0 b", "shrink", "undo", "undo", "undo", "undo")
            told = [console.execute(line) for line in lines]
            self.assertEqual(told, ["ok 1", "ok 2", "ok 3", "ok 4", "ok 3", "ok 2", "ok 1", "ok 0"])
            self.assertEqual(desk.word, "anana")
            self.assertEqual([console.execute("change 4 z"), desk.word, desk.edits()], ["ok 1", "ananz", (("change", 4, "z"),)])

    def test_words_and_orders(self):
        for word in long_words():
            desk = Desk(word)
            console = Console(desk)
            for again in range(2):
                self.assertEqual(console.execute("word"), "word " + word)
                self.assertEqual(console.execute("order"), " ".join(["order"] + [str(place) for place in slow_order(word)]))
                self.assertEqual(console.execute("factors"), " ".join(slow_factors(word)))
                self.assertEqual(console.execute("parts"), str(count_parts(word)))
            for place in range(len(word)):
                self.assertEqual(console.execute(f"rank {place}"), str(slow_order(word).index(place)))
            self.assertEqual(desk.version, 0)

    def test_look_and_found(self):
        for kind in KINDS:
            desk = kind("aabab")
            console = Console(desk)
            self.assertEqual(console.execute("found"), "none")
            for pattern in ("a", "ab", "ba", "x", "aabab", "a" * 24, "abb"):
                places = " ".join(str(place) for place in slow_places("aabab", pattern)) or "none"
                self.assertEqual(console.execute("look " + pattern), places)
                self.assertEqual(desk.pattern, pattern)
                self.assertEqual(console.execute("found"), places)
            desk.pattern = None
            self.assertEqual(console.execute("found"), "none")
            desk.pattern = "b"
            self.assertEqual([console.execute("found"), console.execute("shrink")][0], "2 4")

    def test_this_very_desk(self):
        desk = Desk("ana")
        console = Console(desk)
        desk.grow("b")
        self.assertEqual(console.execute("word"), "word bana")
        console.execute("shrink")
        self.assertEqual((desk.word, desk.version), ("ana", 2))

    def test_answers_are_texts(self):
        console = Console(Desk("banana"))
        for line in ("grow a", "change 0 b", "shrink", "undo", "word", "order", "look an", "found", "rank 0", "parts", "factors",
                     "rank 9", "nothing", None):
            self.assertIs(type(console.execute(line)), str)

    def test_numbers_of_one_to_three_digits(self):
        desk = Desk("a" * 24)
        console = Console(desk)
        self.assertEqual([console.execute("rank 0"), console.execute("rank 9"), console.execute("rank 23")], ["23", "14", "0"])
        self.assertEqual([console.execute("change 0 b"), console.execute("change 10 c"), console.execute("change 23 d")],
                         ["ok 1", "ok 2", "ok 3"])
        for number in (24, 99, 100, 999):
            self.assertEqual(console.execute(f"rank {number}"), "error NoPlace")
            self.assertEqual(console.execute(f"change {number} a"), "error NoPlace")
        self.assertEqual(desk.version, 3)


class ErrorsTest(unittest.TestCase):
    def refused(self, console, line, name):
        before = state(console.desk)
        for again in range(2):
            self.assertEqual(console.execute(line), "error " + name, line)
            self.assertEqual(state(console.desk), before)

    def test_each_error(self):
        for kind in KINDS:
            console = Console(kind("ab"))
            console.execute("look b")
            for line in ("grow B", "grow 1", "grow ab", "grow a\n", "grow \n", "grow -", "change 0 A", "change 0 ab", "change 0 0",
                         "change 1 a\nb", "grow " + "a" * 100):
                self.refused(console, line, "BadLetter")
            for line in ("change 2 a", "change 999 a", "change 2 A", "rank 2", "rank 24", "rank 999"):
                self.refused(console, line, "NoPlace")
            for line in ("look B", "look aB", "look 1", "look " + "a" * 25, "look an\n", "look \nan", "look a-b", "look None"):
                self.refused(console, line, "BadWord")
            self.refused(console, "undo", "NothingToUndo")
            self.refused(Console(kind("b")), "shrink", "LastLetter")
            self.refused(Console(kind("a" * 23 + "b")), "grow a", "TooLong")
            self.refused(Console(kind("a" * 23 + "b")), "grow A", "BadLetter")

    def test_not_simple(self):
        for kind in SIMPLE_KINDS:
            console = Console(kind("aab"))
            for line in ("grow b", "grow z", "change 0 c", "change 2 a"):
                self.refused(console, line, "NotSimple")

    def test_too_many_edits(self):
        for kind in KINDS:
            desk = kind("ab")
            console = Console(desk)
            for version in range(1, 61):
                self.assertEqual(console.execute("change 0 a"), f"ok {version}")
            for line in ("change 0 a", "change 9 a", "change 0 A", "grow a", "grow A", "shrink"):
                self.refused(console, line, "TooManyEdits")
            self.assertEqual([console.execute("undo"), console.execute("change 0 a")], ["ok 59", "ok 60"])

    def test_the_names_are_those_of_the_classes(self):
        """Each line together with the call that it stands for."""
        source = random.Random(21)
        seen = set()
        for kind in KINDS:
            for again in range(40):
                desk = kind(source.choice(("ab", "b", "aab", "a" * 23 + "b")))
                console = Console(desk)
                for step in range(source.choice((5, 80))):
                    place, word = source.choice((0, 0, 1, len(desk) - 1, 24)), source.choice(("a", "b", "a", "b", "B", "ab"))
                    line, call = source.choice((
                        (f"change {place} {word}", lambda twin: twin.change(place, word)),
                        (f"grow {word}", lambda twin: twin.grow(word)),
                        ("grow a", lambda twin: twin.grow("a")),
                        ("shrink", lambda twin: twin.shrink()),
                        ("undo", lambda twin: twin.undo()) if source.random() < 0.3 else ("change 0 a", lambda twin: twin.change(0, "a")),
                    ))
                    told = outcome(call, desk.copy())
                    answer = f"ok {told[1]}" if told[0] == "returned" else f"error {told[1]}"
                    self.assertEqual(console.execute(line), answer)
                    seen.add(answer.split()[0 if told[0] == "returned" else 1])
        self.assertEqual(seen, {"ok", "NoPlace", "BadLetter", "TooLong", "LastLetter", "NotSimple", "TooManyEdits", "NothingToUndo"})


class UnknownTest(unittest.TestCase):
    def check(self, console, value, line):
        before = state(console.desk)
        pairs = console.history
        for again in range(2):
            with self.subTest(value=value):
                self.assertEqual(console.execute(value), "unknown command")
                self.assertEqual(state(console.desk), before)
                self.assertEqual(console.history[-1], (line, "unknown command"))
        self.assertEqual(console.history[:-2], pairs[-18:])

    def test_lines_that_are_no_commands(self):
        for kind in KINDS:
            desk = kind("aabab")
            desk.grow("a")
            desk.look("b")
            console = Console(desk)
            for line in NO_COMMANDS:
                self.check(console, line, line)

    def test_values_that_are_no_texts(self):
        for kind in KINDS:
            console = Console(kind("ab"))
            for value in NO_TEXTS:
                self.check(console, value, None)

    def test_with_sixty_edits(self):
        desk = Desk("ab")
        console = Console(desk)
        for at in range(60):
            desk.change(0, "a")
        for line in NO_COMMANDS:
            self.check(console, line, line)

    def test_arguments_stay(self):
        value = ["word", {"a": [1]}]
        self.assertEqual(Console(Desk("a")).execute(value), "unknown command")
        self.assertEqual(value, ["word", {"a": [1]}])


class HistoryTest(unittest.TestCase):
    def test_at_first(self):
        self.assertEqual(repr(Console(Desk("a")).history), "()")

    def test_last_twenty(self):
        for kind in KINDS:
            console = Console(kind("ab"))
            pairs = []
            values = ["word", "grow a", "grow A", 5, "undo", None, "nothing", "", "order", ["word"], "look b", "found"] * 5
            for many, value in enumerate(values):
                answer = console.execute(value)
                pairs.append((value if isinstance(value, str) else None, answer))
                self.assertEqual(repr(console.history), repr(tuple(pairs[-20:])))
                self.assertEqual(len(console.history), min(many + 1, 20))

    def test_pairs_that_were_read_stay(self):
        console = Console(Desk("a"))
        console.execute("word")
        pairs = console.history
        for at in range(30):
            console.execute("parts")
        self.assertEqual(pairs, (("word", "word a"),))
        self.assertEqual(console.history, (("parts", "1"),) * 20)

    def test_cannot_be_assigned(self):
        console = Console(Desk("a"))
        with self.assertRaises(AttributeError):
            console.history = ()

    def test_members_stand_in_the_class(self):
        self.assertIn("execute", vars(Console))
        self.assertIsInstance(vars(Console)["history"], property)


class TogetherTest(unittest.TestCase):
    def test_two_consoles_on_one_desk(self):
        for kind in KINDS:
            desk = kind("ab")
            one, other = Console(desk), Console(desk)
            self.assertEqual([one.execute("grow a"), other.execute("word"), other.execute("undo")], ["ok 1", "word aab", "ok 0"])
            self.assertEqual([one.execute("word"), one.execute("look b"), other.execute("found")], ["word ab", "1", "1"])
            self.assertEqual(one.history, (("grow a", "ok 1"), ("word", "word ab"), ("look b", "1")))
            self.assertEqual(other.history, (("word", "word aab"), ("undo", "ok 0"), ("found", "1")))

    def test_while_on_step_runs(self):
        for kind in KINDS:
            desk = kind("ab")
            console = Console(desk)
            told = []

            def on_step(passed):
                lines = ("grow a", "grow A", "change 0 a", "change 99 A", "shrink", "undo", "word", "order", "look a", "found",
                         "rank 0", "rank 9", "parts", "factors", "look A", "grow", "run", 5)
                told.extend(console.execute(line) for line in lines)

            self.assertEqual(desk.run([("grow", "a")], on_step=on_step), 1)
            self.assertEqual(told, ["error Busy"] * 6 + [
                "word aab", "order 0 1 2", "0 1", "0 1", "0", "error NoPlace", "5", "aab", "error BadWord", "unknown command",
                "unknown command", "unknown command",
            ])
            self.assertEqual((desk.pattern, desk.version), ("a", 1))
            self.assertEqual(console.execute("grow a"), "ok 2")
            self.assertEqual(len(console.history), 19)

    def test_same_rows_in_the_log(self):
        for kind in KINDS:
            desk = kind("ab")
            console = Console(desk)
            for line in ("grow a", "grow A", "look a", "word", "change 2 c", "undo", "nothing", "found", "rank 0", "undo"):
                console.execute(line)
            if hasattr(desk, "log"):
                self.assertEqual(desk.log, (("grow", 1), ("change", 2), ("undo", 1), ("undo", 0)))
            self.assertEqual(desk.word, "ab")

    def test_a_simple_desk(self):
        console = Console(SimpleDesk("ab"))
        self.assertEqual([console.execute("factors"), console.execute("grow a"), console.execute("factors")], ["ab", "ok 1", "aab"])


if __name__ == "__main__":
    unittest.main()
