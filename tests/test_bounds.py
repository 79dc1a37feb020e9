import unittest

from rowsback import bounds

VALUES = {
    "MAX_INPUTS": 8, "MAX_STEPS": 60, "MAX_ENDS": 8, "MAX_WIDE": 20, "MAX_LONG": 400, "MAX_SIZE": 64,
    "MAX_TERMS": 200, "MAX_NUMBER": 100000000000000000000, "MAX_TIMES": 100, "MAX_PLACES": 80, "MAX_MOVES": 600,
    "MAX_PRIME": 1000, "MAX_LEVEL": 60, "MAX_POINTS": 20000, "MAX_LINE": 60, "MAX_WAYS": 10, "MAX_ROUNDS": 40,
    "MAX_ACTS": 1000, "MAX_HELD": 12, "MAX_LETTERS": 8, "MAX_EDITS": 40, "BATCH": 20, "MAX_BARE": 16,
    "MAX_BOTH": 4, "MAX_BOX": 2000, "MAX_DEEP": 40,
}


class BoundsTest(unittest.TestCase):

    def test_each_bound_has_its_value(self):
        told = {name: getattr(bounds, name) for name in dir(bounds) if not name.startswith("_")}
        self.assertEqual(told, VALUES)

    def test_each_bound_is_an_integer(self):
        for name in VALUES:
            self.assertIs(type(getattr(bounds, name)), int)


if __name__ == "__main__":
    unittest.main()
