"""Ways without a common place through a graph, as many as can be.

Each place k is told as two ends, 2k where ways come in and 2k + 1 where they go
out; between them there is room for one way.
"""

PLENTY = 1000


class Flow:
    """A graph of places with what is led through it."""

    def __init__(self, count, steps, firsts, lasts):
        self.count = count
        self.begin = 2 * count
        self.end = 2 * count + 1
        # How much more can be led from one end to another one.
        self.room = [{} for _ in range(2 * count + 2)]
        for k in range(count):
            self.lay(2 * k, 2 * k + 1, 1)
            for other in steps[k]:
                self.lay(2 * k + 1, 2 * other, PLENTY)
        for k in firsts:
            self.lay(self.begin, 2 * k, PLENTY)
        for k in lasts:
            self.lay(2 * k + 1, self.end, PLENTY)
        self.links = [list(ends) for ends in self.room]
        while self.lead_one():
            pass

    def lay(self, one, other, size):
        """Makes room from one end to another, and none for the way back."""
        self.room[one][other] = size
        self.room[other].setdefault(one, 0)

    def reached(self):
        """The dict of the ends to which one more way could go, each with the end ahead of it."""
        ahead = {self.begin: self.begin}
        waiting = [self.begin]
        while waiting:
            one = waiting.pop()
            for other in self.links[one]:
                if other not in ahead and self.room[one][other] > 0:
                    ahead[other] = one
                    waiting.append(other)
        return ahead

    def lead_one(self):
        """Leads one more way through, if there is room; whether there was."""
        ahead = self.reached()
        if self.end not in ahead:
            return False
        other = self.end
        while other != self.begin:
            one = ahead[other]
            self.room[one][other] -= 1
            self.room[other][one] += 1
            other = one
        return True


def narrowest(flow):
    """The list of as few places as can be that block all ways."""
    ahead = flow.reached()
    return [k for k in range(flow.count) if 2 * k in ahead and 2 * k + 1 not in ahead]


def ways_of(flow, firsts):
    """The list of the ways that are led through, each as the list of its places."""
    found = []
    for first in firsts:
        # A way comes in here if it could be led back.
        if flow.room[2 * first][flow.begin] > 0:
            way = [first]
            while flow.room[flow.end].get(2 * way[-1] + 1, 0) == 0:
                way.append(onward(flow, way[-1]))
            found.append(way)
    return found


def onward(flow, k):
    """The place to which the way through a place goes on."""
    ends = [end for end in flow.links[2 * k + 1] if flow.room[end][2 * k + 1] > 0]
    # Within a place on a way no room is left, so what is found leads on to another one.
    return ends[0] // 2
