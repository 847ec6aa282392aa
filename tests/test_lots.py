import unittest

from tests.writing import ONE, OTHER, bad_lots
from whysheets.lots import is_lot
from whysheets.texts import read_cell


class LotsTest(unittest.TestCase):
    def test_lots(self):
        for lot in ((), ONE, OTHER, (("gone", "a"),), (("range", "n", 0, 0),), (("range", "n", -999, 999),), (("gone", "a"), ("gone", "ab"), ("gone", "b")),
                    (("cell", read_cell("row a of 2 = place")), ("range", "b", 1, 2), ("gone", "c")), (("cell", read_cell("settle s from 0 to 1 start 0 = s")),),
                    (("gone", "a"), ("gone", "b"), ("gone", "c"), ("gone", "d"), ("gone", "e"), ("gone", "f"))):
            self.assertIs(is_lot(lot), True, lot)
        self.assertIs(is_lot(thing=ONE), True)
        for thing in bad_lots():
            self.assertIs(is_lot(thing), False, thing)


if __name__ == "__main__":
    unittest.main()
