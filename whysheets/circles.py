"""Spots that read round about."""

from whysheets.frames import reads_of, spot_key, start_reads_of, thing_of


def wrong_round(frame):
    """The least one of the shortest rounds that are not let; None if all are let."""
    graph = round_graph(frame)
    if not any([any(list(graph[spot].values())) for spot in graph]):
        return None
    readers = backward(graph)
    best = None
    for spot in sorted(graph, key=spot_key):
        steps = steps_to(graph, readers, spot)
        # Of rounds that are equally short the one with the least spot is met first.
        if (spot, False) in steps and (best is None or steps[(spot, False)] < len(best)):
            best = least_round(graph, spot, steps)
    return best


def round_graph(frame):
    """The dict from each spot that may be in a round to a dict of those that it reads.

    The inner dict tells whether a round with this step is not let.
    """
    graph = {spot: {} for spot in frame.spots}
    for spot in frame.spots:
        starts = start_reads_of(frame, spot)
        settles = thing_of(frame, spot)[0] == "settle"
        for one in reads_of(frame, spot) + starts:
            graph[spot][one] = not settles or one in starts
    readers = backward(graph)
    leading = endless(graph, readers)
    led = endless(readers, graph)
    made = {}
    for spot in graph:
        if spot in leading and spot in led:
            made[spot] = {one: graph[spot][one] for one in graph[spot] if one in leading and one in led}
    return made


def backward(graph):
    """The dict from each spot to the list of the spots that read it."""
    readers = {spot: [] for spot in graph}
    for spot in graph:
        for one in graph[spot]:
            readers[one].append(spot)
    return readers


def endless(onward, back):
    """The dict of the spots from which steps onward can go on for ever."""
    waits = {spot: len(onward[spot]) for spot in onward}
    idle = [spot for spot in onward if waits[spot] == 0]
    while idle:
        spot = idle.pop()
        for one in back[spot]:
            waits[one] -= 1
            if waits[one] == 0:
                idle.append(one)
    return {spot: True for spot in onward if waits[spot] > 0}


def steps_to(graph, readers, spot):
    """How few steps lead back to a spot.

    The keys are pairs of a spot and whether a step that is not let was taken
    ahead of it; only where one was taken the way back counts.
    """
    steps = {(spot, True): 0}
    front = [(spot, True)]
    while front:
        reached = []
        for state in front:
            for ahead in states_ahead(graph, readers, state):
                if ahead not in steps:
                    steps[ahead] = steps[state] + 1
                    reached.append(ahead)
        front = reached
    return steps


def states_ahead(graph, readers, state):
    """The states from which one step leads to this one."""
    spot, is_wrong = state
    found = []
    for one in readers[spot]:
        if not graph[one][spot]:
            found.append((one, is_wrong))
        elif is_wrong:
            found.extend([(one, True), (one, False)])
    return found


def least_round(graph, spot, steps):
    """The least one of the shortest rounds that are not let and begin with a spot."""
    found = [spot]
    state = (spot, False)
    while steps[state] > 1:
        here, is_wrong = state
        behind = [(one, is_wrong or graph[here][one]) for one in sorted(graph[here], key=spot_key)]
        state = [one for one in behind if steps.get(one) == steps[state] - 1][0]
        found.append(state[0])
    return tuple(found)
