"""What stands where, told once more and in another way: rules that begin with themselves, read all at once.

This knows nothing of the package. It does not count parentheses.
"""

RULES = """
SHEET: INPUTS CELLS
INPUTS: INPUT | INPUTS INPUT
CELLS: CELL | CELLS CELL
INPUT: input name from figures to figures
CELL: cell name = E | row name of figures = rE | settle name from figures to figures start E = E
"""
# Each of these stands once for itself and once, with r ahead, for a row.
EXPRESSIONS = """
E: if E then E else E | O
O: A | O or A
A: N | A and N
N: not N | C
C: S | S < S | S <= S | S == S
S: P | S + P | S - P
P: T | P * T
T: figures | name | name [ figures ] | least ( E , E ) | greatest ( E , E ) | sum name | fewest name | most name
T: cases E { PAIRS else : E } | ( E )
PAIRS: figures : E , | PAIRS figures : E ,
"""
IN_ROWS = """
rT: place | name [ place figures else rE ]
"""


def rules_of(text, ahead):
    found = []
    own = {line.split(":")[0] for line in EXPRESSIONS.strip().split("\n")}
    for line in text.strip().split("\n"):
        head, tail = line.split(": ", 1)
        for way in tail.split(" | "):
            symbols = [ahead + symbol if symbol in own else symbol for symbol in way.split()]
            found.append((ahead + head if head in own else head, tuple(symbols)))
    return found


ALL = rules_of(RULES, "") + rules_of(EXPRESSIONS, "") + rules_of(EXPRESSIONS, "r") + rules_of(IN_ROWS, "")
HEADS = {head for head, _ in ALL}
BY_HEAD = {head: [rule for rule in ALL if rule[0] == head] for head in HEADS}


class Chart:
    """Earley's way of reading: all that may be going on behind each word."""

    def __init__(self, start):
        self.start = ("START", (start,))
        self.columns = []
        self.begin({(self.start, 0, 0)})

    def begin(self, items):
        self.columns.append(set())
        here = len(self.columns) - 1
        waiting = list(items)
        while waiting:
            item = waiting.pop()
            if item in self.columns[here]:
                continue
            self.columns[here].add(item)
            (head, symbols), at, origin = item
            if at == len(symbols):
                # No rule is empty, so what ended here began in an earlier column.
                for rule, dot, first in list(self.columns[origin]):
                    if dot < len(rule[1]) and rule[1][dot] == head:
                        waiting.append((rule, dot + 1, first))
            elif symbols[at] in HEADS:
                waiting.extend([(rule, 0, here) for rule in BY_HEAD[symbols[at]]])

    def wanted(self):
        found = set()
        for (_, symbols), at, _ in self.columns[-1]:
            if at < len(symbols) and symbols[at] not in HEADS:
                found.add(symbols[at])
        if (self.start, 1, 0) in self.columns[-1]:
            found.add("end")
        return tuple(sorted(found))

    def read(self, sort):
        items = set()
        for (head, symbols), at, origin in self.columns[-1]:
            if at < len(symbols) and symbols[at] == sort:
                items.add(((head, symbols), at + 1, origin))
        self.begin(items)


def wanted_along(start, sorts):
    """The sorts that can stand at each place up to the first word that cannot."""
    chart = Chart(start)
    found = [chart.wanted()]
    for sort in sorts:
        if sort not in found[-1]:
            break
        chart.read(sort)
        found.append(chart.wanted())
    return found
