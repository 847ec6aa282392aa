import unittest

from tests.making import Maker, odd_values
from whysheets.ends import shortest_end
from whysheets.errors import BadText, NoFit
from whysheets.texts import can_follow, read_sheet, sheet_text, words_of

WORDS = {"name": ("a", "z"), "figures": ("0", "1", "5", "-999", "999")}


def with_end(text):
    return " ".join((text,) + shortest_end(text))


class ShortestEndTest(unittest.TestCase):
    def test_told(self):
        for text, count in (
                ("", 10), ("input", 9), ("input n from", 7), ("input n from 5", 6), ("input n from 5 to", 5),
                ("input n from 0 to 1", 4), ("input n from 0 to 1 row", 5), ("input n from 0 to 1 settle", 9),
                ("input n from 0 to 1 cell a = 1", 0), ("input n from 0 to 1 cell a = 1 +", 1),
                ("input n from 0 to 1 cell a = ((1", 2), ("input n from 0 to 1 cell a = least", 5),
                ("input n from 0 to 1 cell a = x[", 2), ("input n from 0 to 1 row a of 1 = x[place", 4),
                ("input n from 0 to 1 cell a = cases", 10), ("input n from 0 to 1 cell a = cases 1 {999: 1,", 4),
                ("input n from 0 to 1 cell a = if 1", 4), ("input n from 0 to 1 cell a = 1 cell", 3)):
            self.assertEqual(len(shortest_end(text)), count, text)
            read_sheet(with_end(text))

    def test_numbers_fit(self):
        for text in ("input n from 999 to", "input n from 999", "input n from -999", "input n from 0 to 1 settle s from 7",
                     "input n from 0 to 1 settle s from", "input n from 0 to 1 row r of", "input n from 0 to 1 cell a = r[",
                     "input n from 0 to 1 cell a = cases 1 {", "input n from 0 to 1 cell a = cases 1 {999: cases 2 {5: 1,"):
            self.assertIsInstance(shortest_end(text), tuple)
            read_sheet(with_end(text))

    def test_one_blank_ahead_of_each_word(self):
        for text in ("input n from 0 to 1 cell a = 1 -", "input n from 0 to 1\ncell a = b\n\n", "input n from 0 to 1\n"):
            read_sheet(with_end(text))

    def test_no_word_makes_it_shorter_by_more_than_one(self):
        for seed in range(14):
            words = [word for word, _, _ in words_of(sheet_text(Maker(seed).wild_sheet(2)))][:60]
            for k in range(len(words) + 1):
                text = " ".join(words[:k])
                count = len(shortest_end(text))
                read_sheet(with_end(text))
                wanted = can_follow(text)
                self.assertEqual(count == 0, "end" in wanted)
                counts = []
                for sort in wanted:
                    for word in WORDS.get(sort, (sort,)) if sort != "end" else ():
                        try:
                            counts.append(len(shortest_end(text + " " + word)))
                        except NoFit:
                            pass
                self.assertGreaterEqual(min(counts), count - 1)
                if count > 0:
                    self.assertEqual(len(shortest_end(text + " " + shortest_end(text)[0])), count - 1)

    def test_errors(self):
        for thing in odd_values():
            if not isinstance(thing, str):
                with self.assertRaises(BadText) as caught:
                    shortest_end(thing)
                error = caught.exception
                self.assertEqual((error.line, error.column, error.wanted), (None, None, None))
        with self.assertRaises(BadText) as caught:
            shortest_end("input n from 2 to 1 from")
        error = caught.exception
        self.assertEqual((error.line, error.column, error.wanted), (1, 21, ("cell", "input", "row", "settle")))
        for text in ("cell a = place", "cell a = r[place", "settle a from 0 to 1 start place", "row a of 1 = place cell b = place"):
            with self.assertRaises(BadText):
                shortest_end("input n from 0 to 1 " + text)
        with self.assertRaises(NoFit) as caught:
            shortest_end("input n from 2 to 1")
        error = caught.exception
        self.assertEqual((error.line, error.column, error.low, error.high), (1, 19, 2, 999))
        with self.assertRaises(NoFit):
            shortest_end("input n from 0 to 1 cell a = cases 1 {999: 1, 999")

    def test_by_name(self):
        self.assertEqual(len(shortest_end(text="")), 10)


if __name__ == "__main__":
    unittest.main()
