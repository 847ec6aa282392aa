import unittest

from tests.grammar import wanted_along
from tests.making import Maker, odd_values
from tests.test_trees import BAD, GOOD
from whysheets.errors import BadCell, BadExpression, BadSheet, BadText, NoFit
from whysheets.texts import (can_follow, cell_text, expression_text, read_cell, read_expression, read_sheet,
                             sheet_text, words_of)
from whysheets.words import sort_of

TWO = "input n from 0 to 2\ncell a = n + 1\n"
T = ("(", "cases", "fewest", "figures", "greatest", "least", "most", "name", "sum")
ANY = tuple(sorted(T + ("if", "not")))


def name(x):
    return ("name", x)


def number(n):
    return ("number", n)


A, B, C = name("a"), name("b"), name("c")


class Case(unittest.TestCase):
    def refuses(self, function, text, line, column, wanted):
        with self.assertRaises(BadText, msg=text) as caught:
            function(text)
        error = caught.exception
        self.assertEqual((error.line, error.column, error.wanted), (line, column, wanted), text)

    def fits_not(self, function, text, line, column, low, high):
        with self.assertRaises(NoFit, msg=text) as caught:
            function(text)
        error = caught.exception
        self.assertEqual((error.line, error.column, error.low, error.high), (line, column, low, high), text)


class ReadTest(Case):
    def reads(self, text, tree):
        self.assertEqual(read_expression(text), tree)

    def test_terms(self):
        self.reads("7", number(7))
        self.reads("-7", number(-7))
        self.reads("a", A)
        self.reads("x[3]", ("item", "x", 3))
        self.reads("x [ 3 ]", ("item", "x", 3))
        self.reads("x[place -1 else e]", ("at", "x", -1, name("e")))
        self.reads("x[place 0 else if a then b else c]", ("at", "x", 0, ("choose", A, B, C)))
        self.reads("place", ("place",))
        for word in ("least", "greatest"):
            self.reads(f"{word}(a, b or c)", (word, A, ("or", B, C)))
        for word in ("sum", "fewest", "most"):
            self.reads(f"{word} x", (word, "x"))
        self.reads("cases a {1: b, else: c}", ("cases", A, ((1, B),), C))
        self.reads("cases a{-1:b,0:c,9:a,else:c}", ("cases", A, ((-1, B), (0, C), (9, A)), C))
        self.reads("(a)", A)
        self.reads("((((a))))", A)

    def test_signs(self):
        for sign, word in (("<", "less"), ("<=", "atmost"), ("==", "same"), ("+", "plus"), ("-", "minus"),
                           ("*", "times"), ("and", "and"), ("or", "or")):
            self.reads(f"a {sign} b", (word, A, B))
        self.reads("not a", ("not", A))
        self.reads("if a then b else c", ("choose", A, B, C))

    def test_from_the_left(self):
        for sign, word in (("+", "plus"), ("-", "minus"), ("*", "times"), ("and", "and"), ("or", "or")):
            self.reads(f"a {sign} b {sign} c", (word, (word, A, B), C))
            self.reads(f"a {sign} (b {sign} c)", (word, A, (word, B, C)))
        self.reads("a - b + c - a", ("minus", ("plus", ("minus", A, B), C), A))

    def test_levels(self):
        self.reads("a + b * c", ("plus", A, ("times", B, C)))
        self.reads("(a + b) * c", ("times", ("plus", A, B), C))
        self.reads("a + b < c", ("less", ("plus", A, B), C))
        self.reads("a < b and b < c", ("and", ("less", A, B), ("less", B, C)))
        self.reads("not a == b", ("not", ("same", A, B)))
        self.reads("not not a and b", ("and", ("not", ("not", A)), B))
        self.reads("a and b or not c and a", ("or", ("and", A, B), ("and", ("not", C), A)))
        self.reads("if a or b then a else b or c", ("choose", ("or", A, B), A, ("or", B, C)))
        self.reads("if a then if b then a else b else c", ("choose", A, ("choose", B, A, B), C))
        self.reads("if a then b else if b then a else c", ("choose", A, B, ("choose", B, A, C)))
        self.reads("(if a then b else c) + a", ("plus", ("choose", A, B, C), A))
        self.reads("if a then b else c + a", ("choose", A, B, ("plus", C, A)))

    def test_cells(self):
        self.assertEqual(read_cell("cell c = a"), ("cell", "c", A))
        self.assertEqual(read_cell("row r of 3 = place"), ("row", "r", 3, ("place",)))
        self.assertEqual(read_cell("settle s from -1 to 4 start a = b"), ("settle", "s", -1, 4, A, B))
        self.assertEqual(read_cell("cell\nc\n=\na\n"), ("cell", "c", A))

    def test_sheets(self):
        self.assertEqual(read_sheet(TWO), ("sheet", (("input", "n", 0, 2),), (("cell", "a", ("plus", name("n"), number(1))),)))
        text = "input n from -5 to -5 input m from 0 to 999 cell n = 0 row n of 9 = n[place 1 else 0] settle a from 0 to 1 start 0 = a"
        self.assertEqual(read_sheet(text), ("sheet", (("input", "n", -5, -5), ("input", "m", 0, 999)), (
            ("cell", "n", number(0)), ("row", "n", 9, ("at", "n", 1, number(0))), ("settle", "a", 0, 1, number(0), A))))

    def test_by_name(self):
        self.assertEqual(read_sheet(text=TWO), read_sheet(TWO))
        self.assertEqual(read_cell(text="cell c = a"), ("cell", "c", A))
        self.assertEqual(read_expression(text="a"), A)
        self.assertEqual(can_follow(text="input"), ("name",))
        self.assertEqual(sheet_text(sheet=read_sheet(TWO)), TWO)
        self.assertEqual(cell_text(cell=("cell", "c", A)), "cell c = a")
        self.assertEqual(expression_text(expression=A), "a")


class RefusedTest(Case):
    def test_no_text(self):
        for function in (read_sheet, read_cell, read_expression, can_follow):
            for thing in odd_values() + ["a\t", "é"]:
                if not isinstance(thing, str) or thing in ("a\t", "é"):
                    self.refuses(function, thing, None, None, None)

    def test_not_whole(self):
        self.refuses(read_sheet, "", 1, 1, ("input",))
        self.refuses(read_sheet, " \n ", 2, 2, ("input",))
        self.refuses(read_sheet, "input n\n", 2, 1, ("from",))
        self.refuses(read_sheet, "input n from 0 to 2", 1, 20, ("cell", "input", "row", "settle"))
        self.refuses(read_sheet, TWO + "cell b =  ", 3, 11, ANY)
        self.refuses(read_cell, "", 1, 1, ("cell", "row", "settle"))
        self.refuses(read_cell, "cell a = x[", 1, 12, ("figures",))
        self.refuses(read_cell, "row a of 2 = x[", 1, 16, ("figures", "place"))
        self.refuses(read_expression, "", 1, 1, tuple(sorted(ANY + ("place",))))
        self.refuses(read_expression, "x[", 1, 3, ("figures", "place"))
        self.refuses(read_expression, "cases a {", 1, 10, ("figures",))
        self.refuses(read_expression, "cases a {1: b,", 1, 15, ("else", "figures"))

    def test_first_word_that_cannot_stand(self):
        behind_name = ("*", "+", "-", "<", "<=", "==", "[", "and", "or")
        cells = ("cell", "end", "row", "settle")
        self.refuses(read_sheet, "cell a = 1", 1, 1, ("input",))
        self.refuses(read_sheet, TWO + "input m from 0 to 1", 3, 1, tuple(sorted(behind_name[:6] + ("and", "or") + cells)))
        self.refuses(read_sheet, TWO + "cell b = a a", 3, 12, tuple(sorted(behind_name + cells)))
        self.refuses(read_sheet, TWO + "cell if = a", 3, 6, ("name",))
        self.refuses(read_sheet, TWO + "cell fork = a", 3, 6, ("name",))
        self.refuses(read_sheet, TWO + "cell a1 = a", 3, 6, ("name",))
        self.refuses(read_sheet, TWO + "cell b = 007", 3, 10, ANY)
        self.refuses(read_sheet, TWO + "cell b = place", 3, 10, ANY)
        self.refuses(read_sheet, TWO + "cell b = n[place 1 else 2]", 3, 12, ("figures",))
        self.refuses(read_sheet, TWO + "settle b from 0 to 1 start place = 1", 3, 28, ANY)
        self.refuses(read_sheet, TWO + "settle b from 0 to 1 start 0 = place", 3, 32, ANY)
        self.refuses(read_sheet, TWO + "row b of 2 = place cell c = place", 3, 29, ANY)
        self.refuses(read_sheet, "input n from 1000 to 2", 1, 14, ("figures",))
        self.refuses(read_cell, "cell a = b cell", 1, 12, tuple(sorted(behind_name + ("end",))))
        self.refuses(read_cell, "cell a = b -5", 1, 12, tuple(sorted(behind_name + ("end",))))
        self.refuses(read_expression, "a < b < c", 1, 7, ("*", "+", "-", "[", "and", "end", "or"))
        self.refuses(read_expression, "a + not b", 1, 5, tuple(sorted(T + ("place",))))
        self.refuses(read_expression, "a and if b then a else b", 1, 7, tuple(sorted(T + ("not", "place"))))
        self.refuses(read_expression, "- 5", 1, 1, tuple(sorted(ANY + ("place",))))
        self.refuses(read_expression, "least a", 1, 7, ("(",))
        self.refuses(read_expression, "sum 1", 1, 5, ("name",))
        self.refuses(read_expression, "(a]", 1, 3, tuple(sorted(behind_name + (")",))))
        self.refuses(read_expression, "cases a {else: 1}", 1, 10, ("figures",))
        self.refuses(read_expression, "cases a {1: 2}", 1, 14, ("*", "+", ",", "-", "<", "<=", "==", "and", "or"))

    def test_twelve_in_one_another(self):
        inner = tuple(word for word in ANY if word != "(")
        for start, end in (("", ""), ("least(", ", 1)"), ("not ", ""), ("cases 1 {1: ", ", else: 0}")):
            self.assertEqual(read_expression(start + "(" * 12 + "a" + ")" * 12 + end), read_expression(start + "a" + end))
            wanted = tuple(sorted(inner + ("place",)))
            self.refuses(read_expression, start + "(" * 13 + "a" + ")" * 13 + end, 1, len(start) + 13, wanted)
        self.refuses(read_cell, "cell a = " + "(" * 12, 1, 22, inner)
        self.assertEqual(can_follow(TWO + "cell b = " + "(" * 12), inner)
        self.assertEqual(can_follow(TWO + "cell b = " + "(" * 11), ANY)
        self.assertEqual(can_follow(TWO + "cell b = " + "(" * 12 + "a)+"), T)
        self.assertEqual(can_follow(TWO + "cell b = " + "(" * 12 + "a+"), tuple(word for word in T if word != "("))
        # Only those count that are not closed yet.
        long = "(a) + " * 14
        self.assertEqual(read_expression(long + "(" * 12 + "a" + ")" * 12), read_expression("a + " * 14 + "a"))
        wanted = tuple(word for word in inner if word not in ("if", "not")) + ("place",)
        self.refuses(read_expression, long + "(" * 12 + "a + (a)" + ")" * 12, 1, len(long) + 17, tuple(sorted(wanted)))
        # The parentheses of a least belong to no expression.
        deep = "least(" * 14 + "a" + ", b)" * 14
        self.assertEqual(expression_text(read_expression(deep)), deep)
        self.refuses(read_expression, "(" * 12 + "least((", 1, 19, tuple(sorted(inner + ("place",))))

    def test_can_follow(self):
        self.assertEqual(can_follow(""), ("input",))
        self.assertEqual(can_follow(TWO), ("*", "+", "-", "<", "<=", "==", "and", "cell", "end", "or", "row", "settle"))
        self.assertEqual(can_follow("input n from 0 to 2 settle"), ("name",))
        self.assertEqual(can_follow("input n from 5 to 2 row r of 77 = cases 1 {3: 4, 3"), (":",))
        self.refuses(can_follow, "input n from 0 from", 1, 16, ("to",))


class NoFitTest(Case):
    def test_ranges(self):
        self.fits_not(read_sheet, "input n from 2 to\n 1 cell a = 1", 2, 2, 2, 999)
        self.fits_not(read_cell, "settle s from -1 to -2 start 0 = 0", 1, 21, -1, 999)
        self.assertEqual(read_cell("settle s from 999 to 999 start 0 = 0")[2:4], (999, 999))

    def test_items(self):
        for text in ("0", "10", "-1", "999"):
            self.fits_not(read_cell, f"row r of {text} = 1", 1, 10, 1, 9)
            self.fits_not(read_expression, f"r[{text}]", 1, 3, 1, 9)
        for k in range(1, 10):
            self.assertEqual(read_cell(f"row r of {k} = r[{k}]"), ("row", "r", k, ("item", "r", k)))

    def test_pairs(self):
        self.fits_not(read_expression, "cases a {3: 1, 3: 2, else: 3}", 1, 16, 4, 999)
        self.fits_not(read_expression, "cases a {3: 1, -4: 2, else: 3}", 1, 16, 4, 999)
        self.fits_not(read_expression, "cases a {999: 1, 999: 2, else: 3}", 1, 18, 1000, 999)
        self.fits_not(read_expression, "cases a {5: cases b {2: 1, 1: 2, else: 0}, 4: 2, else: 3}", 1, 28, 3, 999)
        self.fits_not(read_expression, "cases a {5: cases b {9: 1, else: 0}, 6: 2, 6: 3, else: 3}", 1, 44, 7, 999)
        self.assertEqual(read_expression("cases a {-999: 1, 999: 2, else: 3}")[2][1][0], 999)

    def test_all_others_fit(self):
        self.assertEqual(read_expression("r[place 999 else -999]"), ("at", "r", 999, number(-999)))

    def test_the_first_one(self):
        self.fits_not(read_sheet, "input n from 2 to 1 input m from 3 to 0 row a of 0 = 1", 1, 19, 2, 999)
        self.fits_not(read_sheet, "input n from 1 to 1 row a of 0 = r[0]", 1, 30, 1, 9)

    def test_behind_all_words(self):
        self.refuses(read_sheet, "input n from 2 to 1 cell a =", 1, 29, ANY)
        self.refuses(read_sheet, "input n from 2 to 1 cell a = 1 +", 1, 33, T)
        self.refuses(read_expression, "r[0] r", 1, 6, ("*", "+", "-", "<", "<=", "==", "and", "end", "or"))


def nested(expression):
    """An expression with parentheses around each part."""
    word = expression[0]
    part = lambda one: "( " + nested(one) + " )"
    signs = {"plus": "+", "minus": "-", "times": "*", "less": "<", "atmost": "<=", "same": "==", "and": "and", "or": "or"}
    if word in signs:
        return f"{part(expression[1])} {signs[word]} {part(expression[2])}"
    if word in ("least", "greatest"):
        return f"{word} ( {part(expression[1])} , {part(expression[2])} )"
    if word == "not":
        return "not " + part(expression[1])
    if word == "choose":
        return f"if {part(expression[1])} then {part(expression[2])} else {part(expression[3])}"
    if word == "cases":
        pairs = " ".join(f"{n} : {part(one)} ," for n, one in expression[2])
        return f"cases {part(expression[1])} {{ {pairs} else : {part(expression[3])} }}"
    if word == "item":
        return f"{expression[1]} [ {expression[2]} ]"
    if word == "at":
        return f"{expression[1]} [ place {expression[2]} else {part(expression[3])} ]"
    return " ".join(map(str, expression[1:] if word in ("number", "name") else expression))


class WriteTest(Case):
    def test_example(self):
        text = "cell c = if sum r < 4 then 1 else cases n {1: 2, else: -1}"
        cell = ("cell", "c", ("choose", ("less", ("sum", "r"), ("number", 4)), ("number", 1),
                              ("cases", ("name", "n"), ((1, ("number", 2)),), ("number", -1))))
        self.assertEqual(read_cell(text), cell)
        self.assertEqual(cell_text(cell), text)

    def test_blanks(self):
        for text in ("least(a, b) * (c + greatest(1, -1))", "x[3] + x[place -1 else m]", "not (a and b)",
                     "cases (if a then b else c) {-1: (a or b) < c, 2: 3, else: sum r}", "a - -5", "a - (b - c)",
                     "place", "if a then b else if b then c else a", "(if a then b else c) or b", "((a + b) * c < 1) == b",
                     "fewest r <= most r", "not not a", "(not a) + 1", "(a < b) < c", "a and (b and c) and a",
                     "x[place 1 else if a then x[2] else y[place 0 else place]]"):
            text = text.replace("cases (if a then b else c)", "cases if a then b else c")
            self.assertEqual(expression_text(read_expression(text)), text)

    def test_cells(self):
        for text in ("cell c = 1", "row r of 9 = place", "settle s from -1 to 10 start a or b = (s or c) + 1",
                     "cell c = if a then b else c", "row r of 2 = if a then b else c",
                     "settle s from 0 to 1 start if a then b else c = if b then a else c"):
            self.assertEqual(cell_text(read_cell(text)), text)

    def test_where_no_parentheses_are_wanted(self):
        one = "if a then b else c"
        for text in (f"if {one} then {one} else {one}", f"least({one}, {one})", f"greatest({one}, {one})", f"x[place 1 else {one}]",
                     f"cases {one} {{1: {one}, 2: {one}, else: {one}}}"):
            self.assertEqual(expression_text(read_expression(text)), text)

    def test_sheet(self):
        text = "input n from 0 to 2\ninput m from -9 to 9\nrow r of 3 = r[place -1 else m] + n\ncell a = r[2] * n\n"
        self.assertEqual(sheet_text(read_sheet(text.replace("\n", "  "))), text)

    def test_made_sheets_are_read_as_they_were(self):
        for seed in range(300):
            sheet = Maker(seed).wild_sheet(4)
            self.assertEqual(read_sheet(sheet_text(sheet)), sheet)
            for cell in sheet[2]:
                self.assertEqual(read_cell(cell_text(cell)), cell)
                self.assertEqual(read_expression(expression_text(cell[-1])), cell[-1])
                self.assertEqual(read_expression(nested(cell[-1])), cell[-1])

    def test_no_parentheses_can_be_left_out(self):
        for seed in range(200):
            expression = Maker(seed).wild(4)
            words = [word for word, _, _ in words_of(expression_text(expression))]
            for first, last in pairs_in(words):
                shorter = words[:first] + words[first + 1:last] + words[last + 1:]
                try:
                    self.assertNotEqual(read_expression(" ".join(shorter)), expression)
                except BadText:
                    pass

    def test_no_text_has_fewer_words(self):
        fewest = {}
        fronts = [[]]
        for length in range(1, 8):
            longer = []
            for words in product_of(fronts, ("a", "(", ")", "+", "*", "<", "or", "not")):
                try:
                    fewest.setdefault(read_expression(" ".join(words)), length)
                    longer.append(words)
                except BadText as error:
                    # What is only not whole may become so with further words.
                    if error.column == len(" ".join(words)) + 1:
                        longer.append(words)
            fronts = longer
        self.assertGreater(len(fewest), 100)
        for expression, length in fewest.items():
            self.assertEqual(len(words_of(expression_text(expression))), length)

    def test_bad_values(self):
        for thing in odd_values() + BAD:
            with self.assertRaises(BadSheet):
                sheet_text(thing)
            with self.assertRaises(BadExpression):
                expression_text(thing)
            if repr(thing)[:6] not in ("('cell", "('row'"):
                with self.assertRaises(BadCell):
                    cell_text(thing)
        with self.assertRaises(BadCell):
            cell_text(("cell", "a", ("place",)))
        with self.assertRaises(BadCell):
            cell_text(("input", "a", 0, 1))
        for thing in GOOD:
            self.assertEqual(read_expression(expression_text(thing)), thing)


def product_of(fronts, words):
    """Each front with each word behind it."""
    return [front + [word] for front in fronts for word in words]


def pairs_in(words):
    """The indexes of parentheses that belong together and are no least's."""
    found = []
    opened = []
    for k, word in enumerate(words):
        if word == "(":
            opened.append(k)
        if word == ")":
            first = opened.pop()
            if first == 0 or words[first - 1] not in ("least", "greatest"):
                found.append((first, k))
    return found


class CanStandTest(Case):
    """What can stand is held against another reader, along texts and where a word is changed."""

    WORDS = ("a", "5", "$", "cell", "input", "row", "place", "if", "else", "(", ")", "[", "]", "{", "}", ",", ":",
             "=", "==", "<", "+", "*", "not", "and", "or", "sum", "cases", "then", "of", "start", "-3", "most")

    def test_along_made_texts(self):
        for seed in range(12):
            text = sheet_text(Maker(seed).wild_sheet(3))
            words = [word for word, _, _ in words_of(text)][:90]
            told = wanted_along("SHEET", [sort_of(word) for word in words])
            self.assertEqual(len(told), len(words) + 1)
            for k, wanted in enumerate(told):
                self.assertEqual(can_follow(" ".join(words[:k])), wanted)

    def test_where_a_word_is_changed(self):
        maker = Maker(7)
        starts = {"SHEET": read_sheet, "CELL": read_cell, "rE": read_expression}
        for _ in range(400):
            start = maker.one_of(list(starts))
            cell = maker.wild_cell(3)
            text = {"SHEET": "input n from 0 to 1 ", "CELL": "", "rE": ""}[start]
            text += expression_text(cell[-1]) if start == "rE" else cell_text(cell)
            words = [word for word, _, _ in words_of(text)]
            at = maker.below(len(words))
            words[at:at + maker.below(2)] = [maker.one_of(self.WORDS)]
            del words[at + maker.below(len(words) - at) + 1:]
            told = wanted_along(start, [sort_of(word) for word in words])
            if len(told) <= len(words):
                column = sum(len(word) + 1 for word in words[:len(told) - 1]) + 1
                self.refuses(starts[start], " ".join(words), 1, column, told[-1])
            elif "end" not in told[-1]:
                self.refuses(starts[start], " ".join(words), 1, len(" ".join(words)) + 1, told[-1])
            else:
                try:
                    starts[start](" ".join(words))
                except NoFit:
                    pass

    def test_first_number_that_does_not_fit(self):
        maker = Maker(11)
        for _ in range(300):
            words = [word for word, _, _ in words_of(sheet_text(maker.wild_sheet(3)))]
            numbers = [k for k, word in enumerate(words) if sort_of(word) == "figures"]
            for _ in range(maker.number(1, 3)):
                words[maker.one_of(numbers)] = str(maker.one_of((-999, -3, 0, 1, 2, 3, 9, 10, 999)))
            wanted = misfit(words)
            column = lambda k: sum(len(word) + 1 for word in words[:k]) + 1
            if wanted is None:
                self.assertEqual([word for word, _, _ in words_of(sheet_text(read_sheet(" ".join(words))))], words)
            else:
                self.fits_not(read_sheet, " ".join(words), 1, column(wanted[0]), wanted[1], wanted[2])


def misfit(words):
    """The index of the first number that does not fit, with what would fit there, from the words around it alone."""
    pairs = []
    for k, word in enumerate(words):
        if word == "{":
            pairs.append(None)
        if word == "}":
            pairs.pop()
        if sort_of(word) != "figures":
            continue
        low, high = -999, 999
        if words[k - 1] == "to":
            low = int(words[k - 2])
        elif words[k - 1] in ("of", "["):
            low, high = 1, 9
        elif k + 1 < len(words) and words[k + 1] == ":":
            low = -999 if pairs[-1] is None else pairs[-1] + 1
            pairs[-1] = int(word)
        if not low <= int(word) <= high:
            return k, low, high
    return None


if __name__ == "__main__":
    unittest.main()
