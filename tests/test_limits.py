"""The limits have the values told."""

import unittest

from closerworks import limits

TOLD = {
    "MOST_THINGS": 7, "MOST_ROWS": 60, "MOST_RULES": 200, "MOST_LINES": 64, "MOST_VALUE": 1000, "MOST_PARTS": 35,
    "MOST_ANSWERS": 12, "MOST_LISTED": 3, "MOST_WEIGHT": 1000000,
}


class Limits(unittest.TestCase):

    def test_each_name_has_the_value_told(self):
        for name, value in TOLD.items():
            self.assertEqual(getattr(limits, name), value, name)
            self.assertIs(type(getattr(limits, name)), int, name)

    def test_there_are_no_other_names(self):
        self.assertEqual({name for name in vars(limits) if not name.startswith("_")}, set(TOLD))


if __name__ == "__main__":
    unittest.main()
