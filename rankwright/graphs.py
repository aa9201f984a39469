"""Graphs that tell binary matroids.

A graph is looked for that is joined together and has no vertices but those
from 0 to the rank. A base is a tree in it then, and each other element leads
from one end to the other one of a path in this tree.
"""

from rankwright.logs import contracted
from rankwright.masks import masks_of, places_in
from rankwright.sets import rest_of, together


def edges_telling(matroid):
    """A graph of a binary matroid, as a dict from its elements to edges, or None."""
    if matroid.coloops:
        return _with_coloop(matroid, matroid.coloops[0])
    for pair in matroid.dual().circuits:
        if len(pair) == 2:
            return _with_pair(matroid, pair)
    return _edges_along_tree(matroid)


def _with_coloop(matroid, coloop):
    edges = edges_telling(contracted(matroid, (coloop,)))
    if edges is not None:
        edges[coloop] = (0, matroid.rank)
    return edges


def _with_pair(matroid, pair):
    """The graph of a matroid in which just the circuits that have one of a pair have the other one, too."""
    kept, gone = pair
    edges = edges_telling(contracted(matroid, (gone,)))
    if edges is not None:
        # The edge that was kept is cut in two by a new vertex.
        low, high = edges[kept]
        edges[kept] = (low, matroid.rank)
        edges[gone] = (high, matroid.rank)
    return edges


def _edges_along_tree(matroid):
    frame = matroid.bases[0]
    others = rest_of(matroid.ground, frame)
    paths = masks_of([_path_of(matroid, frame, other) for other in others], frame)
    tree = _tree_grown([], len(frame), paths)
    if tree is None:
        return None
    edges = {part: edge for part, edge in zip(frame, tree)}
    for element, path in zip(others, paths):
        ends = _ends_of([tree[at] for at in places_in(path, len(frame))])
        edges[element] = (ends[0], ends[1]) if ends else (0, 0)
    return edges


def _path_of(matroid, frame, other):
    """What is in the fundamental circuit of another element beside it."""
    return rest_of(matroid.circuit_in(together(frame, (other,))), (other,))


def _tree_grown(tree, many, paths):
    """A tree of so many edges that leads to this one when the later edges are shrunk to vertices, or None.

    In it the edges of each mask are a path. They stay one when other edges are shrunk.
    """
    if len(tree) == many:
        return tree
    for vertex in range(len(tree) + 1):
        for longer in _trees_split(tree, vertex):
            if _are_paths(longer, paths):
                found = _tree_grown(longer, many, paths)
                if found is not None:
                    return found
    return None


def _trees_split(tree, vertex):
    """The trees with a new edge from a vertex to a new one that takes over some of its edges."""
    new = len(tree) + 1
    at_vertex = [at for at, edge in enumerate(tree) if vertex in edge]
    # Either end of the new edge may be the new one, so that the first edge can stay.
    choices = [()]
    for more in at_vertex[1:]:
        choices = choices + [(*choice, more) for choice in choices]
    return [[*_moved(tree, choice, vertex, new), (vertex, new)] for choice in choices]


def _moved(tree, choice, vertex, new):
    """The edges, of which some lead to a new vertex instead of another one."""
    moved = []
    for at, (low, high) in enumerate(tree):
        if at in choice:
            moved.append((high if low == vertex else low, new))
        else:
            moved.append((low, high))
    return moved


def _are_paths(tree, paths):
    parts = [[tree[at] for at in places_in(path, len(tree))] for path in paths]
    return all([len(_ends_of(part)) <= 2 for part in parts])


def _ends_of(edges):
    """The vertices at just one of the edges, ascending. Edges of a tree are a path if there are two."""
    counts = {}
    for edge in edges:
        for vertex in edge:
            counts[vertex] = counts.get(vertex, 0) + 1
    return sorted([end for end in counts if counts[end] == 1])
