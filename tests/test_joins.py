import unittest

from tests.making import Maker, Odd, odd_values, order_points
from tests.test_forks import LEAST, XY, big_nodes
from whysheets.errors import (BadFork, BadForks, BadInner, BadName, BadNames, BadPart, BadTable, BadWord, BadWorth,
                              TooMany)
from whysheets.forks import fork_from, is_fork, worths_of
from whysheets.joins import held, joined, mapped, over, put_in


def both(function):
    """The function of two worths, open where one of them is."""
    return lambda a, b: None if a is None or b is None else function(a, b)


def chosen_and(a, b):
    return None if a is None else 0 if a == 0 else None if b is None else int(b != 0)


def chosen_or(a, b):
    return None if a is None else 1 if a != 0 else None if b is None else int(b != 0)


WORDS = {
    "plus": (2, both(lambda a, b: a + b)), "minus": (2, both(lambda a, b: a - b)), "times": (2, both(lambda a, b: a * b)),
    "least": (2, both(min)), "greatest": (2, both(max)), "less": (2, both(lambda a, b: int(a < b))),
    "atmost": (2, both(lambda a, b: int(a <= b))), "same": (2, both(lambda a, b: int(a == b))),
    "and": (2, chosen_and), "or": (2, chosen_or), "not": (1, lambda a: None if a is None else int(a == 0)),
    "choose": (3, lambda a, b, c: None if a is None else c if a == 0 else b),
}
FOLDS = {"sum": sum, "fewest": min, "most": max}
ONE = (("x", -1, 1),)


def fork(order, told):
    return fork_from(order, told)


class JoinedTest(unittest.TestCase):
    def test_all_pairs_of_worths(self):
        told = [-2, 0, 1, 3, None]
        order = (("a", 0, 4), ("b", 0, 4))
        one = fork(order, [a for a in told for _ in told])
        other = fork(order, [b for _ in told for b in told])
        for word, (count, function) in WORDS.items():
            if count == 2:
                wanted = [function(a, b) for a in told for b in told]
                self.assertEqual(worths_of(joined(word, [one, other])), wanted, word)
        order = (("a", 0, 4),)
        self.assertEqual(worths_of(joined("not", [fork(order, told)])), [0, 1, 0, 0, None])
        order = (("a", 0, 3), ("b", 0, 3), ("c", 0, 3))
        told = [-2, 0, 1, None]
        forks = [fork(order, [numbers[k] for numbers in [(a, b, c) for a in told for b in told for c in told]]) for k in range(3)]
        self.assertEqual(worths_of(joined("choose", forks)), [WORDS["choose"][1](a, b, c) for a in told for b in told for c in told])

    def test_made_forks(self):
        for seed in range(80):
            maker = Maker(seed)
            order = maker.order(maker.number(0, 4))
            told = [maker.worths(order) for _ in range(3)]
            forks = [fork(order, one) for one in told]
            for word, (count, function) in WORDS.items():
                wanted = fork(order, [function(*row) for row in zip(*told[:count])])
                self.assertEqual(joined(word, forks[:count]), wanted)
                self.assertEqual(joined(word=word, forks=tuple(forks[:count])), wanted)

    def test_bad_words_go_first(self):
        for word in ["sum", "cases", "name", "Plus", "nor", "", *odd_values()]:
            with self.assertRaises(BadWord):
                joined(word, None)

    def refuses(self, word, forks, at):
        with self.assertRaises(BadForks) as caught:
            joined(word, forks)
        self.assertEqual(caught.exception.at, at)

    def test_bad_forks(self):
        other = fork(XY[::-1], [0] * 9)
        for thing in odd_values():
            if not isinstance(thing, (list, tuple)):
                self.refuses("plus", thing, None)
            self.refuses("plus", [thing, LEAST], 0)
            self.refuses("plus", [LEAST, thing], 1)
            self.refuses("plus", [LEAST, LEAST, thing], 2)
        self.refuses("plus", [LEAST, other], 1)
        self.refuses("plus", [LEAST, LEAST, other], 2)
        self.refuses("not", [LEAST, other], 1)
        self.refuses("not", LEAST, 0)
        for word, count in (("plus", 1), ("plus", 3), ("not", 0), ("not", 2), ("choose", 2), ("choose", 4), ("and", 1), ("less", 0)):
            self.refuses(word, [LEAST] * count, None)

    def test_too_many_nodes(self):
        order = (("x", 0, 8), ("y", 0, 8), ("z", 0, 8), ("w", 0, 6))
        big = ("fork", order, big_nodes(order))
        zero = ("fork", order, (("leaf", 0),))
        with self.assertRaises(TooMany) as caught:
            joined("plus", [zero, big])
        self.assertEqual(caught.exception.most, 4000)
        # What has more nodes may be passed, and gone through.
        self.assertEqual(worths_of(joined("not", [big])), [1] + [0] * 5102)


class MappedTest(unittest.TestCase):
    def test_told(self):
        self.assertEqual(worths_of(mapped(LEAST, {0: 5, 2: None}, 7)), [5, 5, 5, 5, 7, 7, 5, 7, None])
        self.assertEqual(mapped(fork=LEAST, table={}, other=None), ("fork", XY, (("leaf", None),)))
        one = fork(ONE, [None, 0, 3])
        self.assertEqual(worths_of(mapped(one, {0: 1, 3: 4}, 9)), [9, 1, 4])
        self.assertEqual(worths_of(mapped(one, {}, None)), [None] * 3)

    def test_made_forks(self):
        for seed in range(60):
            maker = Maker(seed)
            order = maker.order(3)
            told = maker.worths(order)
            table = {n: maker.one_of((None, 0, 1, 5)) for n in range(-1, 3) if maker.chance(2)}
            other = maker.one_of((None, 0, -4))
            before = dict(table)
            wanted = fork(order, [table[w] if w is not None and w in table else other for w in told])
            self.assertEqual(mapped(fork(order, told), table, other), wanted)
            self.assertEqual(table, before)

    def test_errors(self):
        for thing in odd_values():
            with self.assertRaises(BadFork):
                mapped(thing, None, "x")
            if not (isinstance(thing, dict) and (not thing or thing == {1: 2})):
                with self.assertRaises(BadTable):
                    mapped(LEAST, thing, "x")
            if thing is not None and (not isinstance(thing, int) or isinstance(thing, bool)):
                with self.assertRaises(BadWorth):
                    mapped(LEAST, {1: 2}, thing)
        for table in ({True: 1}, {1: True}, {"a": 1}, {None: 1}, {1: "a"}, {1: Odd()}, [(1, 2)]):
            with self.assertRaises(BadTable):
                mapped(LEAST, table, 0)

    def test_too_many_nodes(self):
        order = (("x", 0, 8), ("y", 0, 8), ("z", 0, 8), ("w", 0, 6))
        big = ("fork", order, big_nodes(order))
        with self.assertRaises(TooMany):
            mapped(big, {k: k for k in range(5103)}, 0)


class HeldTest(unittest.TestCase):
    def test_told(self):
        self.assertEqual(held(LEAST, {"x": 1}), ("fork", (("y", 0, 2),), (("y", (1, 2, 2)), ("leaf", 0), ("leaf", 1))))
        self.assertEqual(held(LEAST, {"y": 0}), ("fork", (("x", 0, 2),), (("leaf", 0),)))
        self.assertEqual(held(LEAST, {"y": 2, "x": 2}), ("fork", (), (("leaf", 2),)))
        self.assertEqual(held(fork=LEAST, part={}), LEAST)

    def test_made_forks(self):
        for seed in range(100):
            maker = Maker(seed)
            order = maker.order(maker.number(0, 4))
            told = maker.worths(order)
            part = {name: maker.number(low, high) for name, low, high in order if maker.chance(2)}
            rest = tuple(triple for triple in order if triple[0] not in part)
            wanted = [worth for numbers, worth in zip(order_points(order), told)
                      if all(part.get(triple[0], number) == number for triple, number in zip(order, numbers))]
            found = held(fork(order, told), part)
            self.assertEqual(found, fork(rest, wanted))
            self.assertTrue(is_fork(found))

    def test_errors(self):
        for thing in odd_values():
            with self.assertRaises(BadFork):
                held(thing, None)
            if not (isinstance(thing, dict) and not thing):
                with self.assertRaises(BadPart):
                    held(LEAST, thing)
        for part in ({"z": 0}, {"x": 3}, {"x": -1}, {"x": True}, {"x": None}, {"x": 0, "z": 0}, {0: 0}, [("x", 0)], {("x",): 0}):
            with self.assertRaises(BadPart):
                held(LEAST, part)

    def test_too_many_nodes(self):
        order = (("v", 0, 1),) + (("x", 0, 8), ("y", 0, 8), ("z", 0, 8), ("w", 0, 6))
        big = ("fork", order, big_nodes(order))
        with self.assertRaises(TooMany):
            held(big, {"v": 1})
        self.assertEqual(worths_of(held(big, {"v": 1, "x": 0, "y": 0, "z": 1})), list(range(5110, 5117)))


class PutInTest(unittest.TestCase):
    def wanted(self, order, told, name, inner):
        points = order_points(order)
        known = dict(zip(points, told))
        at = [triple[0] for triple in order].index(name)
        found = []
        for numbers, number in zip(points, inner):
            found.append(known.get(numbers[:at] + (number,) + numbers[at + 1:]))
        return found

    def test_told(self):
        inner = fork(XY, [2, 1, 0, None, 5, -1, 2, 1, 0])
        self.assertEqual(worths_of(put_in(LEAST, "x", inner)), [0, 1, 0, None, None, None, 0, 1, 0])
        self.assertEqual(worths_of(put_in(fork=LEAST, name="y", inner=inner)), [0, 0, 0, None, None, None, 2, 1, 0])
        same = fork(XY, [x for x in range(3) for _ in range(3)])
        self.assertEqual(put_in(LEAST, "x", same), LEAST)

    def test_names_that_are_not_asked(self):
        plain = fork(XY, [4] * 9)
        self.assertEqual(worths_of(put_in(plain, "x", fork(XY, [None, 0, 1, 2, 3, -1, 0, 0, 0]))), [None, 4, 4, 4, None, None, 4, 4, 4])

    def test_made_forks(self):
        for seed in range(150):
            maker = Maker(seed)
            order = maker.order(maker.number(1, 4))
            told = maker.worths(order)
            name, low, high = maker.one_of(order)
            inner = [None if w is None else w + low for w in maker.worths(order, high - low + 2)]
            found = put_in(fork(order, told), name, fork(order, inner))
            self.assertEqual(found, fork(order, self.wanted(order, told, name, inner)))

    def test_errors(self):
        for thing in odd_values():
            with self.assertRaises(BadFork):
                put_in(thing, None, None)
            with self.assertRaises(BadName):
                put_in(LEAST, thing, None)
            with self.assertRaises(BadInner):
                put_in(LEAST, "x", thing)
        for name in ("z", "X", ("x",), ["x"]):
            with self.assertRaises(BadName):
                put_in(LEAST, name, None)
        for inner in (fork(XY[::-1], [0] * 9), fork(ONE, [0] * 3), list(LEAST)):
            with self.assertRaises(BadInner):
                put_in(LEAST, "x", inner)

    def test_too_many_nodes(self):
        order = (("x", 0, 8), ("y", 0, 8), ("z", 0, 8), ("w", 0, 6))
        big = ("fork", order, big_nodes(order))
        same = fork(order, [w for _ in range(729) for w in range(7)])
        with self.assertRaises(TooMany):
            put_in(big, "w", same)
        self.assertEqual(len(put_in(big, "w", mapped(same, {}, 0))[2]), 1 + 9 + 81 + 729)


class OverTest(unittest.TestCase):
    def wanted(self, order, told, names, word):
        groups = {}
        for numbers, worth in zip(order_points(order), told):
            rest = tuple(number for triple, number in zip(order, numbers) if triple[0] not in names)
            groups.setdefault(rest, []).append(worth)
        rest = tuple(triple for triple in order if triple[0] not in names)
        return fork(rest, [None if None in groups[numbers] else FOLDS[word](groups[numbers]) for numbers in order_points(rest)])

    def test_told(self):
        y = (("y", 0, 2),)
        self.assertEqual(over(LEAST, ("x",), "sum"), fork(y, [0, 2, 3]))
        self.assertEqual(over(LEAST, ("x",), "fewest"), fork(y, [0, 0, 0]))
        self.assertEqual(over(LEAST, ("x",), "most"), fork(y, [0, 1, 2]))
        self.assertEqual(over(LEAST, ("y", "x"), "sum"), fork((), [5]))
        self.assertEqual(over(fork=LEAST, names=(), word="sum"), LEAST)

    def test_names_that_are_not_asked(self):
        plain = fork(XY, [4] * 9)
        self.assertEqual(over(plain, ("x",), "sum"), fork((("y", 0, 2),), [12] * 3))
        self.assertEqual(over(plain, ("x", "y"), "sum"), fork((), [36]))
        self.assertEqual(over(plain, ("x", "y"), "most"), fork((), [4]))

    def test_made_forks(self):
        for seed in range(100):
            maker = Maker(seed)
            order = maker.order(maker.number(0, 4))
            told = maker.worths(order, 3, maker.one_of((8, 40, 1000)))
            names = tuple(maker.shuffled([name for name, _, _ in order])[:maker.number(0, len(order))])
            for word in FOLDS:
                self.assertEqual(over(fork(order, told), names, word), self.wanted(order, told, names, word))

    def test_one_behind_the_other_is_both(self):
        for seed in range(60):
            maker = Maker(seed)
            order = maker.order(4)
            told = fork(order, maker.worths(order, 3, 30))
            names = maker.shuffled([name for name, _, _ in order])
            first = maker.number(0, 4)
            second = maker.number(first, 4)
            for word in FOLDS:
                one = over(over(told, tuple(names[:first]), word), tuple(names[first:second]), word)
                self.assertEqual(one, over(told, tuple(names[:second]), word))

    def test_sums_of_sums(self):
        for seed in range(60):
            maker = Maker(seed)
            order = maker.order(3)
            one, other = [fork(order, maker.worths(order, 5, 10 ** 6)) for _ in range(2)]
            names = tuple(maker.shuffled([name for name, _, _ in order])[:maker.number(0, 3)])
            parts = [over(one, names, "sum"), over(other, names, "sum")]
            self.assertEqual(over(joined("plus", [one, other]), names, "sum"), joined("plus", parts))

    def test_errors(self):
        for thing in odd_values():
            with self.assertRaises(BadFork):
                over(thing, None, None)
            if not (isinstance(thing, tuple) and not thing):
                with self.assertRaises(BadNames):
                    over(LEAST, thing, None)
            with self.assertRaises(BadWord):
                over(LEAST, ("x",), thing)
        for names in (["x"], ("x", "x"), ("z",), ("x", "z"), "x", {"x": 1}, ("x", None), (["x"],)):
            with self.assertRaises(BadNames):
                over(LEAST, names, None)
        for word in ("plus", "least", "Sum", "greatest"):
            with self.assertRaises(BadWord):
                over(LEAST, (), word)

    def test_too_many_nodes(self):
        order = (("v", 0, 1),) + (("x", 0, 8), ("y", 0, 8), ("z", 0, 8), ("w", 0, 6))
        big = ("fork", order, big_nodes(order))
        with self.assertRaises(TooMany):
            over(big, ("v",), "sum")
        self.assertEqual(over(big, ("v", "x", "y", "z", "w"), "most"), fork((), [2 * 5103 - 1]))


if __name__ == "__main__":
    unittest.main()
