"""The least lots that meet all of some lots.

Lots are told here by numbers whose bits are their moves.
"""


class Hitting:
    """Looks for the least lots that meet all of some others, and stops when more than most are found."""

    def __init__(self, lots, most):
        self.lots = lots
        self.most = most
        self.found = []

    def grow(self, chosen, barred):
        """Finds the least lots that have the chosen bits and none of the barred ones."""
        open_bits = [bits_in(lot & ~barred) for lot in self.lots if (lot & chosen) == 0]
        if not open_bits:
            self.found.append(chosen)
            return
        # The lot with the fewest ways to meet it; what was tried once is barred behind it.
        for bit in min(open_bits, key=len):
            if len(self.found) <= self.most and self.needs_all(chosen | bit):
                self.grow(chosen | bit, barred)
            barred = barred | bit

    def needs_all(self, chosen):
        """Whether each of the chosen bits is the only one in some lot."""
        alone = 0
        for lot in self.lots:
            met = lot & chosen
            if (met & (met - 1)) == 0:
                alone = alone | met
        return alone == chosen


def bits_in(lot):
    """The list of the bits of a lot, the lowest first."""
    found = []
    while lot > 0:
        rest = lot & (lot - 1)
        found.append(lot - rest)
        lot = rest
    return found


def least_hits(lots, most):
    """The ascending list of the least lots that meet all of some lots of moves; if they are more than most, some."""
    known = {}
    for lot in lots:
        for move in lot:
            known[move] = 0
    moves = sorted(known)
    for k, move in enumerate(moves):
        known[move] = 1 << k
    hitting = Hitting([sum([known[one] for one in lot]) for lot in lots], most)
    hitting.grow(0, 0)
    found = []
    for chosen in hitting.found:
        found.append(tuple([move for move in moves if (known[move] & chosen) > 0]))
    return sorted(found)
