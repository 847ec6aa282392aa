"""What stands where in a text, as rules for reading word by word.

A symbol in capitals stands for a piece of a text, one behind "!" for what is put
together when all ahead of it is read, any other one for a word of this sort.
"""

# What a piece becomes before a word of a sort.
RULES = {
    ("INPUT", "input"): ("input", "NAME", "from", "NUMBER", "to", "HIGH", "!input"),
    ("INPUTS", "input"): ("INPUT", "INPUTS"),
    ("CELL", "cell"): ("cell", "NAME", "=", "E", "!cell"),
    ("CELL", "row"): ("row", "!open row", "NAME", "of", "COUNT", "=", "E", "!row"),
    ("CELL", "settle"): ("settle", "NAME", "from", "NUMBER", "to", "HIGH", "start", "E", "=", "E", "!settle"),
    ("CELLS", "cell"): ("CELL", "CELLS"),
    ("CELLS", "row"): ("CELL", "CELLS"),
    ("CELLS", "settle"): ("CELL", "CELLS"),
    ("E", "if"): ("if", "E", "then", "E", "else", "E", "!choose"),
    ("ORS", "or"): ("or", "A", "!or", "ORS"),
    ("ANDS", "and"): ("and", "N", "!and", "ANDS"),
    ("N", "not"): ("not", "N", "!not"),
    ("SAME", "<"): ("<", "S", "!less"),
    ("SAME", "<="): ("<=", "S", "!atmost"),
    ("SAME", "=="): ("==", "S", "!same"),
    ("SUMS", "+"): ("+", "P", "!plus", "SUMS"),
    ("SUMS", "-"): ("-", "P", "!minus", "SUMS"),
    ("TIMES", "*"): ("*", "T", "!times", "TIMES"),
    ("T", "figures"): ("NUMBER", "!number"),
    ("T", "name"): ("NAME", "ITEM"),
    ("ITEM", "["): ("[", "INSIDE"),
    ("INSIDE", "figures"): ("COUNT", "]", "!item"),
    ("INSIDE", "place"): ("place", "NUMBER", "else", "E", "]", "!at"),
    ("T", "place"): ("place", "!place"),
    ("T", "least"): ("least", "(", "E", ",", "E", ")", "!least"),
    ("T", "greatest"): ("greatest", "(", "E", ",", "E", ")", "!greatest"),
    ("T", "sum"): ("sum", "NAME", "!sum"),
    ("T", "fewest"): ("fewest", "NAME", "!fewest"),
    ("T", "most"): ("most", "NAME", "!most"),
    ("T", "cases"): ("cases", "E", "{", "!open pairs", "PAIR", ":", "E", ",", "!pair", "PAIRS",
                     "else", ":", "E", "}", "!cases"),
    ("PAIRS", "figures"): ("PAIR", ":", "E", ",", "!pair", "PAIRS"),
    ("T", "("): ("(", "!open group", "E", ")", "!group"),
}

# What a piece becomes before a word of any other sort.
OTHERWISE = {
    "SHEET": ("INPUT", "INPUTS", "CELL", "CELLS"),
    "INPUTS": (),
    "CELLS": (),
    "E": ("O",),
    "O": ("A", "ORS"),
    "ORS": (),
    "A": ("N", "ANDS"),
    "ANDS": (),
    "N": ("C",),
    "C": ("S", "SAME"),
    "SAME": (),
    "S": ("P", "SUMS"),
    "SUMS": (),
    "P": ("T", "TIMES"),
    "TIMES": (),
    "ITEM": ("!name",),
    "PAIRS": (),
}

# The pieces that may have no word at all.
EMPTY = ("INPUTS", "CELLS", "ORS", "ANDS", "SAME", "SUMS", "TIMES", "ITEM", "PAIRS")

TERM = ("figures", "name", "place", "least", "greatest", "sum", "fewest", "most", "cases", "(")
DENIED = ("not", "figures", "name", "place", "least", "greatest", "sum", "fewest", "most", "cases", "(")
ANY = ("if", "not", "figures", "name", "place", "least", "greatest", "sum", "fewest", "most", "cases", "(")

# The sorts of words with which a piece can begin.
STARTS = {
    "SHEET": ("input",),
    "INPUT": ("input",),
    "INPUTS": ("input",),
    "CELL": ("cell", "row", "settle"),
    "CELLS": ("cell", "row", "settle"),
    "E": ANY,
    "O": DENIED,
    "ORS": ("or",),
    "A": DENIED,
    "ANDS": ("and",),
    "N": DENIED,
    "C": TERM,
    "SAME": ("<", "<=", "=="),
    "S": TERM,
    "SUMS": ("+", "-"),
    "P": TERM,
    "TIMES": ("*",),
    "T": TERM,
    "ITEM": ("[",),
    "INSIDE": ("figures", "place"),
    "PAIRS": ("figures",),
}

# The words that are held as they are read; the numbers differ in what fits.
HELD = {"NAME": "name", "NUMBER": "figures", "HIGH": "figures", "COUNT": "figures", "PAIR": "figures"}

# The shortest words that a piece can become which may be awaited behind a word and cannot be left out.
SHORTEST = {
    "SHEET": ("input", "a", "from", "0", "to", "0", "cell", "a", "=", "0"),
    "CELL": ("cell", "a", "=", "0"),
    "E": ("0",),
    "A": ("0",),
    "N": ("0",),
    "S": ("0",),
    "P": ("0",),
    "T": ("0",),
    "INSIDE": ("1", "]"),
    "NAME": ("a",),
    "NUMBER": ("0",),
    "COUNT": ("1",),
    "PAIR": ("0",),
}
GROUPS = 12
