"""The bases that a matrix, a graph or a family leads to, grown element by element.

A set grows by elements at later and later places of the ground and carries a
state that tells which ones keep it independent. All sets within an independent
one are independent, so that each independent set is met, just once.
"""

from rankwright.limits import MAX_VERTEX


def bases_by_matrix(number, rows, ground):
    """The greatest sets whose columns are independent."""
    return _bases_grown(ground, rows, lambda left, at: _rows_behind(left, at, number))


def bases_by_graph(edges, ground):
    """The greatest sets without a cycle."""
    apart = tuple(range(MAX_VERTEX + 1))
    return _bases_grown(ground, apart, lambda labels, at: _labels_behind(labels, edges[at]))


def bases_by_family(family, ground):
    """The greatest sets whose elements can be given different places."""
    return _bases_grown(ground, (0,), lambda taken, at: _places_behind(taken, ground[at], family))


def _bases_grown(ground, start, state_behind):
    """The greatest of the sets that grow from (), the set with the state `start`.

    `state_behind(state, at)` is the state of a set with the element at a place
    more, or None if that one makes it dependent.
    """
    # Of each set: itself, the place from which on it may grow, and its state.
    level = [((), 0, start)]
    longer = level
    while longer:
        level = longer
        longer = _grown_by_one(level, ground, state_behind)
    return tuple([row[0] for row in level])


def _grown_by_one(level, ground, state_behind):
    # Each set is ahead of the next one in its level, and so are all that grow from it.
    longer = []
    for members, first, state in level:
        for at in range(first, len(ground)):
            behind = state_behind(state, at)
            if behind is not None:
                longer.append(((*members, ground[at]), at + 1, behind))
    return longer


def _rows_behind(rows, at, number):
    """The rows but for one that is not 0 at a place, brought to 0 there by it; None if all are 0 there.

    In what they leave, just those sets of columns are independent that are so
    with the column at the place.
    """
    for where, pivot in enumerate(rows):
        if pivot[at] != 0:
            others = rows[:where] + rows[where + 1:]
            return tuple([_cleared(row, pivot, at, number) for row in others])
    return None


def _cleared(row, pivot, at, number):
    # Modulo 2 and 3 each number but 0 is its own inverse, so that this brings 0 to the place.
    factor = row[at] * pivot[at]
    return tuple([(one - factor * other) % number for one, other in zip(row, pivot)])


def _labels_behind(labels, edge):
    """The labels of the vertices, equal where edges join them, with an edge more; None if it makes a cycle."""
    low, high = labels[edge[0]], labels[edge[1]]
    if low == high:
        return None
    return tuple([low if label == high else label for label in labels])


def _places_behind(taken, element, family):
    """The masks of places that a set can have with an element more; None if there is none."""
    free = [1 << at for at, members in enumerate(family) if element in members]
    masks = sorted({mask | place for mask in taken for place in free if mask & place == 0})
    return tuple(masks) if masks else None
