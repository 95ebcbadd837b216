import unittest

from tailranks.errors import BadText
from tailranks.texts import order_text, parse_order, parse_word, places_text, word_text
from tests.samples import ALPHABET, STRANGE, all_orders, long_orders, long_words, short_words

NO_TEXTS = tuple(value for value in STRANGE if not isinstance(value, str)) + (
    0, 5, ("word", "ana"), ["word ana"], {"word": "ana"}, (1, 0), ("order 1 0",),
)


class ExamplesTest(unittest.TestCase):
    def test_texts(self):
        told = [word_text('ana'), order_text((2, 0, 1)), places_text((1, 3)), places_text(())]
        self.assertEqual(repr(told), "['word ana', 'order 2 0 1', '1 3', 'none']")

    def test_parse(self):
        self.assertEqual(repr([parse_word('word ana'), parse_order('order 1 0')]), "['ana', (1, 0)]")

    def test_parse_raises(self):
        with self.assertRaises(BadText) as caught:
            parse_order('order 1 x')
        self.assertEqual(repr(caught.exception.index), "2")


class TextsTest(unittest.TestCase):
    def test_words_there_and_back(self):
        for word in list(short_words("az", 4)) + long_words():
            for again in range(2):
                self.assertEqual(word_text(word), "word " + word)
                self.assertEqual(parse_word(word_text(word)), word)

    def test_orders_there_and_back(self):
        for order in list(all_orders(5)) + long_orders():
            for again in range(2):
                text = order_text(order)
                self.assertEqual(text, "order" + "".join(" " + repr(place) for place in order))
                self.assertEqual(parse_order(text), order)
                self.assertIs(type(parse_order(text)), tuple)
                self.assertTrue(all(type(place) is int for place in parse_order(text)))

    def test_places(self):
        self.assertEqual(places_text((0,)), "0")
        self.assertEqual(places_text((5, 3, 1)), "5 3 1")
        self.assertEqual(places_text(tuple(range(24))), " ".join(repr(k) for k in range(24)))
        self.assertEqual(places_text((10 ** 12, 0)), "1000000000000 0")
        self.assertEqual(places_text(()), "none")


class BadWordTest(unittest.TestCase):
    def refused(self, value, index):
        for again in range(2):
            with self.subTest(value=value), self.assertRaises(BadText) as caught:
                parse_word(value)
            self.assertEqual(repr(caught.exception.index), repr(index))

    def test_no_texts(self):
        for value in NO_TEXTS:
            self.refused(value, None)

    def test_first_word(self):
        for text in ("", " ", "  ", "word\n", "Word ana", "WORD ana", "words ana", "wor ana", "order ana", "order 1 0",
                     " word ana", "wordana", "ana", "ana word", "word\nana", "\nword ana", "word\tana", "x" * 2000):
            self.refused(text, 0)

    def test_second_word(self):
        for text in ("word", "word ", "word  ", "word  ana", "word  ana ", "word Ana", "word anA", "word an-a", "word 1",
                     "word ana\n", "word \nana", "word ana\nana", "word " + "a" * 25, "word " + "a" * 25 + " ana",
                     "word Ana ana", "word a1 "):
            self.refused(text, 1)
        self.assertEqual(parse_word("word " + "a" * 24), "a" * 24)
        self.assertEqual(parse_word("word word"), "word")

    def test_third_word(self):
        for text in ("word ana ", "word ana  ", "word ana ana", "word ana  ana", "word a b c", "word ana \n", "word ana 1",
                     "word " + "a" * 24 + " a"):
            self.refused(text, 2)

    def test_each_other_character(self):
        for code in list(range(32, 127)) + [10]:
            if chr(code) not in ALPHABET + " ":
                self.refused("word " + chr(code), 1)
                self.refused("word a" + chr(code), 1)
                self.refused(chr(code) + "word a", 0)

    def test_arguments_stay(self):
        value = ["word ana", {"a": [1]}]
        self.refused(value, None)
        self.assertEqual(value, ["word ana", {"a": [1]}])


class BadOrderTest(unittest.TestCase):
    def refused(self, value, index):
        for again in range(2):
            with self.subTest(value=value), self.assertRaises(BadText) as caught:
                parse_order(value)
            self.assertEqual(repr(caught.exception.index), repr(index))

    def test_no_texts(self):
        for value in NO_TEXTS:
            self.refused(value, None)

    def test_first_word(self):
        for text in ("", " ", "order\n0", "Order 0", "ORDER 0", "orders 0", "orde 0", "word 0", "word ana", " order 0",
                     "order0", "0", "0 order", "\norder 0", "order\t0", "x y"):
            self.refused(text, 0)

    def test_words_that_are_no_numbers(self):
        for bad in ("", "-1", "-0", "+1", "01", "00", "000", "007", "100", "123", "x", "1x", "x1", "1\n", "\n1", "\n", "1.", "1.0",
                    "1e1", "1_0", "0x1", "1,", "(1", "one", "None", "True", "\u0661", "\u00b2"):
            self.refused("order " + bad, 1)
            self.refused("order 0 " + bad, 2)
            self.refused("order 1 0 " + bad + " 2", 3)
            self.refused("order " + bad + " 0 0", 1)
            self.refused("order " + " ".join(str(k) for k in range(24)) + " " + bad, 25)

    def test_spaces(self):
        self.refused("order ", 1)
        self.refused("order  0", 1)
        self.refused("order 0 ", 2)
        self.refused("order 1  0", 2)
        self.refused("order 1 0 ", 3)
        self.refused("order 1 0  ", 3)

    def test_the_first_wrong_word_is_told(self):
        self.refused("order 0 x y", 2)
        self.refused("word x", 0)
        self.refused("order 0 0 x", 3)
        self.refused("order 99 99 -1", 3)

    def test_numbers_that_are_no_order(self):
        for text in ("order", "order 1", "order 0 0", "order 1 1", "order 0 2", "order 1 2", "order 99", "order 10", "order 0 1 1",
                     "order 3 2 1", "order " + " ".join(str(k) for k in range(25)), "order " + " ".join(["0"] * 25),
                     "order " + " ".join(str(k) for k in range(100))):
            self.refused(text, 0)
        self.assertEqual(parse_order("order " + " ".join(str(k) for k in range(24))), tuple(range(24)))
        self.assertEqual(parse_order("order 0"), (0,))

    def test_arguments_stay(self):
        value = ["order 0", {"a": [1]}]
        self.refused(value, None)
        self.assertEqual(value, ["order 0", {"a": [1]}])


if __name__ == "__main__":
    unittest.main()
