"""Nodes that are made from the worths at points."""

from whysheets.nodes import size_at


def grown(store, levels, worth_by, indexes):
    """The node that asks for some levels alone, ascending, and has the worths that are told for their indexes.

    indexes holds those of the levels that are set already.
    """
    if len(indexes) == len(levels):
        return store.leaf(worth_by(indexes))
    level = levels[len(indexes)]
    children = [grown(store, levels, worth_by, indexes + (at,)) for at in range(size_at(store.order, level))]
    return store.question(level, tuple(children))


def grown_at_spot(store, table, rows):
    """The node of the one spot of a table; rows has for each level the list of its numbers."""
    names = table.steps.names
    levels = [level for level, triple in enumerate(store.order) if triple[0] in names]

    def worth_by(indexes):
        """The spot's worth at indexes of the levels that lead to it."""
        point = {store.order[level][0]: rows[level][indexes[k]] for k, level in enumerate(levels)}
        return table.worths_at(point)[0]
    return grown(store, levels, worth_by, ())
