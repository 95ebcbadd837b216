import unittest

from tailranks import bounds


class BoundsTest(unittest.TestCase):
    def test_values(self):
        self.assertEqual(bounds.MAX_WORD, 24)
        self.assertEqual(bounds.MAX_COUNT, 40)
        self.assertEqual(bounds.MAX_TIMES, 1000000000000)
        self.assertEqual(bounds.MAX_EDITS, 60)
        self.assertEqual(bounds.BATCH, 20)

    def test_kinds(self):
        for name in ("MAX_WORD", "MAX_COUNT", "MAX_TIMES", "MAX_EDITS", "BATCH"):
            self.assertIs(type(getattr(bounds, name)), int)


if __name__ == "__main__":
    unittest.main()
