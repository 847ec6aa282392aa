import unittest

from tests.making import Odd, named_point, odd_values, order_points, worth_rank, worth_table
from tests.packing import BITS, XY, bad_orders, made_book, some_point
from whysheets.bits import pack
from whysheets.counts import counted
from whysheets.errors import BadBit, BadBits, BadMany, BadOrder, BadPoint, BadQuestion, Ended
from whysheets.forks import fork_from
from whysheets.machine import Machine, read, walls_from

POINT = {"x": 1, "y": 2}
PRICES = {"x": 2, "y": 1}
WEIGHTS = {"x": (1, 1, 1), "y": (1, 1, 1)}
BOX = {"x": (0, 2), "y": (1, 2)}


def answer_of(fork, question):
    """The answer of a page, by its table of worths."""
    order = fork[1]
    table = worth_table(fork)
    names = [name for name, _, _ in order]
    if question[0] == "worth":
        return table[tuple(question[1][name] for name in names)]
    if question[0] == "worths":
        inside = {worth for numbers, worth in table.items() if all(n in question[1][name] for name, n in zip(names, numbers))}
        return tuple(sorted(inside, key=worth_rank))
    found = {}
    for numbers, worth in table.items():
        if question[0] == "count":
            weight = 1
            for (name, low, _), n in zip(order, numbers):
                weight *= question[1][name][n - low]
            found[worth] = found.get(worth, 0) + weight
        else:
            price = sum(question[2][name] * abs(question[1][name] - n) for name, n in zip(names, numbers))
            found[worth] = min(found.get(worth, (price, numbers)), (price, numbers))
    if question[0] == "count":
        return {worth: found[worth] for worth in sorted(found, key=worth_rank)}
    return {worth: (found[worth][0], named_point(order, found[worth][1])) for worth in sorted(found, key=worth_rank)}


def questions_of(maker, order):
    point = some_point(maker, order)
    prices = {name: maker.number(1, 3) for name, _, _ in maker.shuffled(order)}
    weights = {name: tuple(maker.number(-1, 3) for _ in range(high - low + 1)) for name, low, high in maker.shuffled(order)}
    box = {}
    for name, low, high in maker.shuffled(order):
        numbers = [n for n in range(low, high + 1) if maker.chance(2)]
        box[name] = tuple(numbers or [low])
    return [("worth", point), ("worths", box), ("count", weights), ("nearest", point, prices)]


def state_of(machine):
    return machine.done(), machine.answers(), machine.depth(), machine.finished()


def wall_of(fork, point):
    """What is left of all moves, from the last one on, by going through all points."""
    order, table = fork[1], worth_table(fork)
    names = [name for name, _, _ in order]
    moves = sorted((name, n) for name, low, high in order for n in range(low, high + 1) if n != point[name])
    is_wall = lambda lot: len({worth for numbers, worth in table.items() if not any(move in lot for move in zip(names, numbers))}) == 1
    for move in moves[::-1]:
        rest = [one for one in moves if one != move]
        moves = rest if is_wall(rest) else moves
    return tuple(moves), is_wall


class MachineTest(unittest.TestCase):
    def test_by_hand(self):
        self.assertEqual(read(XY, 1, ("worth", POINT), BITS), (1,))
        self.assertEqual(read(order=XY, many=1, question=("worths", BOX), bits=tuple(BITS)), ((0, 1, 2),))
        self.assertEqual(read(XY, 1, ("count", WEIGHTS), BITS), ({0: 5, 1: 3, 2: 1},))
        found = read(XY, 1, ("nearest", POINT, PRICES), BITS)
        self.assertEqual(found, ({0: (2, {"x": 0, "y": 2}), 1: (0, POINT), 2: (2, {"x": 2, "y": 2})},))
        self.assertEqual([list(found[0]), list(found[0][0][1])], [[0, 1, 2], ["x", "y"]])
        # y 2 is taken out first; with x 2 as well there would be a 2.
        self.assertEqual(walls_from(XY, 1, BITS, {"x": 1, "y": 1}), ((("x", 0), ("x", 2), ("y", 0)),))
        self.assertEqual(walls_from(XY, 1, BITS, {"x": 0, "y": 1}), ((("x", 1), ("x", 2)),))
        self.assertEqual(walls_from(order=XY, many=1, bits=BITS, point=POINT), ((("x", 0), ("x", 2), ("y", 0)),))
        machine = Machine(order=XY, many=1, question=("worth", POINT))
        self.assertEqual(state_of(machine), (False, (), 0, 0))
        told = []
        for bit in BITS:
            self.assertIsNone(machine.feed(bit=bit))
            told.append((machine.depth(), machine.finished()))
        # 10 begins x, 0 010 is the leaf 0; 10 begins y, 1, 0 010 the leaf 1, 11; 01 begins y, 10, 11, 0 011.
        self.assertEqual(told, [(0, 0), (1, 0), (1, 0), (1, 0), (1, 0), (1, 1), (1, 1), (2, 1), (2, 1), (2, 1), (2, 1), (2, 1), (2, 2), (2, 2), (1, 3),
                                (1, 3), (2, 3), (2, 3), (2, 3), (2, 3), (2, 3), (2, 3), (2, 3), (2, 3), (0, 6)])
        self.assertEqual(state_of(machine), (True, (1,), 0, 6))
        for bit in (0, 1):
            with self.assertRaises(Ended):
                machine.feed(bit)
        with self.assertRaises(BadBit):
            machine.feed(2)

    def test_made_books(self):
        for seed in range(120):
            maker, book = made_book(seed)
            order, bits, many = book[1], pack(book), len(book[2])
            wide = [name for name, low, high in order if low < high]
            for question in questions_of(maker, order):
                wanted = tuple(answer_of(fork, question) for _, fork in book[2])
                found = read(order, many, question, bits)
                self.assertEqual(found, wanted)
                for one, other in zip(found, wanted):
                    if isinstance(one, dict):
                        self.assertEqual(list(one), list(other))
                machine = Machine(order, many, question)
                ends = []
                for k, bit in enumerate(bits):
                    self.assertFalse(machine.done())
                    machine.feed(bit)
                    self.assertLessEqual(machine.depth(), len(wide))
                    self.assertEqual(machine.answers(), wanted[:len(machine.answers())])
                    ends.append((len(machine.answers()), machine.finished()))
                self.assertEqual(ends, sorted(ends))
                self.assertEqual((machine.done(), machine.answers(), machine.depth()), (True, wanted, 0))
                nodes = {tuple(worths) for _, fork in book[2] for worths in node_tables(fork)}
                self.assertEqual(machine.finished(), len(nodes))
                if question[0] == "count":
                    self.assertEqual(found, tuple(counted(fork, question[1]) for _, fork in book[2]))

    def test_walls(self):
        some = 0
        for seed in range(120):
            maker, book = made_book(seed)
            order, bits = book[1], pack(book)
            for _ in range(2):
                point = some_point(maker, order)
                found = walls_from(order, len(book[2]), bits, point)
                self.assertEqual(len(found), len(book[2]))
                for wall, (_, fork) in zip(found, book[2]):
                    wanted, is_wall = wall_of(fork, point)
                    self.assertEqual(wall, wanted)
                    self.assertFalse(any(is_wall([move for move in wall if move != one]) for one in wall))
                    self.assertEqual(wall == (), len(fork[2]) == 1)
                    some += len(wall) > 1
        self.assertGreater(some, 50)

    def test_wrong_calls_change_nothing(self):
        machine = Machine(XY, 1, ("nearest", POINT, PRICES))
        for bit in BITS + [None]:
            before = state_of(machine)
            for wrong in (2, -1, True, False, None, "1", (1,), Odd(), *[thing for thing in odd_values() if thing not in (0, 1)]):
                with self.assertRaises(BadBit):
                    machine.feed(wrong)
            if machine.done():
                with self.assertRaises(Ended):
                    machine.feed(1)
            self.assertEqual(state_of(machine), before)
            if bit is not None:
                machine.feed(bit)
        machine.answers()[0][0][1]["x"] = 9
        machine.answers()[0].clear()
        self.assertEqual(machine.answers()[0][0], (2, {"x": 0, "y": 2}))

    def test_what_is_passed_may_be_changed(self):
        for question in (("worth", dict(POINT)), ("worths", dict(BOX)), ("count", dict(WEIGHTS)), ("nearest", dict(POINT), dict(PRICES))):
            wanted = read(XY, 1, question, BITS)
            machine = Machine(XY, 1, question)
            for told in question[1:]:
                told["x"] = told["y"]
                told.clear()
            for bit in BITS:
                machine.feed(bit)
            self.assertEqual(machine.answers(), wanted)

    def test_errors(self):
        calls = [lambda order, many, question: Machine(order, many, question), lambda order, many, question: read(order, many, question, None)]
        questions = [("worth",), ("worth", POINT, POINT), ["worth", POINT], ("Worth", POINT), ("worth", {"x": 1}), ("worth", {"x": 3, "y": 0}), ("worth", {"x": True, "y": 0}),
                     ("worths", {"x": (0,)}), ("worths", {**BOX, "z": (0,)}), ("worths", {**BOX, "x": ()}), ("worths", {**BOX, "x": (1, 0)}), ("worths", {**BOX, "x": [0]}),
                     ("worths", {**BOX, "x": (0, 3)}), ("worths", {**BOX, "x": (True,)}), ("worths", POINT), ("count", {"x": (1, 1, 1)}), ("count", {**WEIGHTS, "x": (1, 1)}),
                     ("count", {**WEIGHTS, "x": [1, 1, 1]}), ("count", {**WEIGHTS, "x": (1, 1, True)}), ("count", {**WEIGHTS, "z": (1,)}), ("nearest", POINT), ("nearest", POINT, {"x": 1}),
                     ("nearest", POINT, {**PRICES, "x": 0}), ("nearest", POINT, {**PRICES, "x": 1000}), ("nearest", POINT, {**PRICES, "x": True}), ("nearest", {"x": 1}, PRICES),
                     ("nearest", POINT, PRICES, 1), ("nearest", POINT, {**PRICES, "z": 1}), (Odd(), POINT), ("worth", Odd()), ("worths", Odd()), ("count", Odd()), ("nearest", Odd(), Odd()),
                     *odd_values()]
        for call in calls:
            for order in bad_orders() + [thing for thing in odd_values() if not (isinstance(thing, tuple) and not thing)]:
                with self.assertRaises(BadOrder):
                    call(order, None, None)
            for many in (0, -1, 401, True, None, "1", Odd(), *[thing for thing in odd_values() if thing != 1]):
                with self.assertRaises(BadMany):
                    call(XY, many, None)
            for question in questions:
                with self.assertRaises(BadQuestion):
                    call(XY, 1, question)
        for order in bad_orders():
            with self.assertRaises(BadOrder):
                walls_from(order, None, None, None)
        for many in (0, 401, True, None):
            with self.assertRaises(BadMany):
                walls_from(XY, many, None, None)
        for function in (lambda bits: read(XY, 1, ("worth", POINT), bits), lambda bits: walls_from(XY, 1, bits, None)):
            for thing in odd_values():
                if not isinstance(thing, (list, tuple)):
                    with self.assertRaises(BadBits) as caught:
                        function(thing)
                    self.assertIsNone(caught.exception.at)
            for bits, at in (([], 0), (BITS[:-1], len(BITS) - 1), (BITS + [1], len(BITS)), ([1, 0, 2], 2), ([True], 0), (BITS[:3] + [None], 3), ((), 0)):
                with self.assertRaises(BadBits) as caught:
                    function(bits)
                self.assertEqual(caught.exception.at, at)
        for point in ({"x": 0}, {"x": 0, "y": 3}, {"x": 0, "y": True}, {**POINT, "z": 0}, *odd_values()):
            with self.assertRaises(BadPoint):
                walls_from(XY, 1, BITS, point)
        self.assertIsInstance(Machine(XY, 400, ("worth", POINT)), Machine)


def node_tables(fork):
    """For each node of a fork its worths at all points."""
    order, nodes = fork[1], fork[2]
    lows = {name: low for name, low, _ in order}
    names = [name for name, _, _ in order]
    for k in range(len(nodes)):
        found = []
        for numbers in order_points(order):
            at = k
            while nodes[at][0] != "leaf":
                at = nodes[at][1][dict(zip(names, numbers))[nodes[at][0]] - lows[nodes[at][0]]]
            found.append(nodes[at][1])
        yield found


class LeafTest(unittest.TestCase):
    def test_no_names(self):
        book = ("book", (), tuple((("p", k + 1), fork_from((), [worth])) for k, worth in enumerate((4, None, 4))))
        bits = pack(book)
        self.assertEqual(read((), 3, ("worth", {}), bits), (4, None, 4))
        self.assertEqual(read((), 3, ("worths", {}), bits), ((4,), (None,), (4,)))
        self.assertEqual(read((), 3, ("count", {}), bits), ({4: 1}, {None: 1}, {4: 1}))
        self.assertEqual(read((), 3, ("nearest", {}, {}), bits), ({4: (0, {})}, {None: (0, {})}, {4: (0, {})}))
        self.assertEqual(walls_from((), 3, bits, {}), ((), (), ()))


if __name__ == "__main__":
    unittest.main()
