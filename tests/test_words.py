import string
import unittest

from tests.making import odd_values
from whysheets.errors import BadText, BadWord
from whysheets.texts import words_of
from whysheets.words import KEPT, is_name, sort_of

WRITTEN = "and cases cell else fewest from greatest if input least most not of or place row settle start sum then to"
SIGNS = "( ) [ ] { } , : = + - * < <= =="


class KeptTest(unittest.TestCase):
    def test_kept_words(self):
        self.assertEqual(KEPT, tuple(sorted(WRITTEN.split() + ["fork", "leaf"])))
        self.assertEqual(len(KEPT), 23)


class NameTest(unittest.TestCase):
    def test_names(self):
        for name in ("a", "z", "abcdefgh", "inputs", "iff", "at", "end", "name", "zzzzzzzz"):
            self.assertIs(is_name(name), True, name)

    def test_no_names(self):
        for thing in ("", "abcdefghi", "A", "aB", "a1", "a_b", " a", "a ", "a\n", "é", "aé", "ß", *KEPT):
            self.assertIs(is_name(thing), False, thing)

    def test_any_value(self):
        for thing in odd_values():
            self.assertIs(is_name(thing), isinstance(thing, str) and thing in ("a", "sheet"))


class SortTest(unittest.TestCase):
    def test_kept_words_and_signs_are_their_own_sort(self):
        for word in WRITTEN.split() + SIGNS.split():
            self.assertEqual(sort_of(word), word)

    def test_names(self):
        for word in ("a", "abcdefgh", "at", "end"):
            self.assertEqual(sort_of(word), "name")

    def test_number_words(self):
        for word in ("0", "1", "9", "10", "100", "999", "-1", "-10", "-999"):
            self.assertEqual(sort_of(word), "figures")
        for number in range(-999, 1000):
            self.assertEqual(sort_of(str(number)), "figures")

    def test_strange_words(self):
        for word in ("fork", "leaf", "007", "-0", "1000", "Abc", "a1", "abcdefghi", "$", "00", "-00", "-01", "-1000",
                     "_", "a_", "1a", "-1a", "Z", "aZb", "ZZ", "AzZ", "-9Z", "z0", "a9b", "-1_", "-5A", ">", "!", "/", "~", "'", '"', ".", ";", "&", "IF"):
            self.assertEqual(sort_of(word), "strange", word)

    def test_each_character(self):
        for sign in map(chr, range(33, 127)):
            wanted = sign if sign in SIGNS.split() else "strange"
            wanted = "name" if sign in string.ascii_lowercase else wanted
            wanted = "figures" if sign in string.digits else wanted
            self.assertEqual(sort_of(sign), wanted)

    def test_bad_words(self):
        for thing in ("", " ", "\n", " a", "a ", "a b", "a\n", "a+", "<==", "--", "n-5", "- 5", "é", "a\t", "\x7f"):
            with self.assertRaises(BadWord, msg=thing):
                sort_of(thing)
        for thing in odd_values():
            if not isinstance(thing, str) or not thing:
                with self.assertRaises(BadWord):
                    sort_of(thing)

    def test_by_name(self):
        self.assertEqual(sort_of(word="cell"), "cell")
        self.assertIs(is_name(thing="cell"), False)


class WordsOfTest(unittest.TestCase):
    def words(self, text):
        return [word for word, _, _ in words_of(text)]

    def test_minus_signs(self):
        self.assertEqual(self.words("n -5"), ["n", "-5"])
        self.assertEqual(self.words("n - 5"), ["n", "-", "5"])
        self.assertEqual(self.words("n-5"), ["n", "-5"])
        self.assertEqual(self.words("5-3-n"), ["5", "-3", "-", "n"])
        self.assertEqual(self.words("--5-"), ["-", "-5", "-"])
        self.assertEqual(self.words("-5ab_C9-"), ["-5ab_C9", "-"])
        self.assertEqual(self.words("a_1-_2"), ["a_1", "-", "_2"])

    def test_letters_figures_and_low_lines(self):
        inner = string.ascii_letters + string.digits + "_"
        self.assertEqual(self.words(inner), [inner])
        self.assertEqual(self.words("-5" + inner), ["-5" + inner])
        for sign in map(chr, range(33, 127)):
            self.assertEqual(self.words("a" + sign + " "), ["a" + sign] if sign in inner else ["a", sign])

    def test_pairs(self):
        self.assertEqual(self.words("a<=b==c<d=e"), ["a", "<=", "b", "==", "c", "<", "d", "=", "e"])
        self.assertEqual(self.words("<==="), ["<=", "=="])
        self.assertEqual(self.words("==="), ["==", "="])
        self.assertEqual(self.words("< ="), ["<", "="])
        self.assertEqual(self.words("=<="), ["=", "<="])

    def test_places(self):
        self.assertEqual(words_of("  a\n\n b+c\n"), [("a", 1, 3), ("b", 3, 2), ("+", 3, 3), ("c", 3, 4)])
        self.assertEqual(words_of(""), [])
        self.assertEqual(words_of(" \n "), [])
        self.assertEqual(words_of("input n\nfrom 0"), [("input", 1, 1), ("n", 1, 7), ("from", 2, 1), ("0", 2, 6)])

    def test_one_other_character(self):
        self.assertEqual(self.words("!!$a>=b"), ["!", "!", "$", "a", ">", "=", "b"])

    def test_words_are_what_the_text_has(self):
        for text in ("a b-5 c[3]{1:2}", "x<=y==-0 007 Abc_9", "(((", "a\nb\n\nc -"):
            lines = text.split("\n")
            for word, line, column in words_of(text):
                self.assertTrue(lines[line - 1][column - 1:].startswith(word))
            self.assertEqual("".join(self.words(text)), text.replace(" ", "").replace("\n", ""))

    def test_no_text(self):
        for thing in ["a\tb", "é", "\x7f", "\r", "a\x00", *odd_values()]:
            if not isinstance(thing, str) or thing in ("a\tb", "é", "\x7f", "\r", "a\x00"):
                with self.assertRaises(BadText) as caught:
                    words_of(thing)
                error = caught.exception
                self.assertEqual((error.line, error.column, error.wanted), (None, None, None))

    def test_a_new_list(self):
        self.assertIsNot(words_of("a"), words_of("a"))
        self.assertEqual(words_of(text="a"), [("a", 1, 1)])


if __name__ == "__main__":
    unittest.main()
