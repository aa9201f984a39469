"""Binary, ternary, regular, graphic, cographic and planar matroids, and ways to forbidden ones."""

from rankwright.checks import is_graph
from rankwright.errors import BadName
from rankwright.graphs import edges_telling
from rankwright.growth import bases_by_graph
from rankwright.makers import named
from rankwright.matrices import normal_matrix
from rankwright.matroids import check_matroid
from rankwright.ways import is_way_in, least_way_to

CLASSES = ("binary", "cographic", "graphic", "planar", "regular", "ternary")

_FORBIDDEN = {
    "binary": ("U24",),
    "ternary": ("U25", "U35", "F7", "F7*"),
    "regular": ("U24", "F7", "F7*"),
    "graphic": ("U24", "F7", "F7*", "K5*", "K33*"),
    "cographic": ("U24", "F7", "F7*", "K5", "K33"),
    "planar": ("U24", "F7", "F7*", "K5", "K33", "K5*", "K33*"),
}


def binary_of(matroid):
    """The normal matrix over 2 that tells a matroid, or None."""
    check_matroid(matroid)
    return normal_matrix(2, matroid)


def ternary_of(matroid):
    """The normal matrix over 3 that tells a matroid, or None."""
    check_matroid(matroid)
    return normal_matrix(3, matroid)


def graph_of(matroid):
    """A graph of a matroid, or None."""
    check_matroid(matroid)
    edges = None
    if normal_matrix(2, matroid) is not None:
        edges = edges_telling(matroid)
    return None if edges is None else tuple([edges[element] for element in matroid.ground])


def is_graph_of(matroid, thing):
    """Whether thing is a graph of a matroid."""
    check_matroid(matroid)
    return is_graph(thing, matroid.ground) and bases_by_graph(thing, matroid.ground) == matroid.bases


def is_of(matroid, name):
    """Whether a matroid is of a class."""
    check_matroid(matroid)
    _check_name(name)
    if name == "binary":
        return binary_of(matroid) is not None
    if name == "ternary":
        return ternary_of(matroid) is not None
    if name == "regular":
        return is_of(matroid, "binary") and is_of(matroid, "ternary")
    if name == "graphic":
        return graph_of(matroid) is not None
    if name == "cographic":
        return graph_of(matroid.dual()) is not None
    return is_of(matroid, "graphic") and is_of(matroid, "cographic")


def least_way(matroid, name):
    """The least way to a forbidden matroid of a class, or None."""
    if is_of(matroid, name):
        return None
    for goal in sorted(_goals(matroid, name), key=_many_of):
        way = least_way_to(matroid, goal)
        if way is not None:
            return way
    return None


def _goals(matroid, name):
    """The names of the forbidden matroids, but for those to which there surely is no way."""
    # A way to one that is not of a class shows that the matroid is not of it.
    missing = ()
    if is_of(matroid, "binary"):
        missing = ("U24", "U25", "U35", "F7", "F7*") if is_of(matroid, "ternary") else ("U24", "U25", "U35")
    return [goal for goal in forbidden(name) if goal not in missing]


def _many_of(name):
    return len(named(name).ground)


def is_way(matroid, thing):
    """Whether thing is a way in a matroid."""
    check_matroid(matroid)
    return is_way_in(matroid, thing)


def forbidden(name):
    """The names of the matroids that are forbidden for a class."""
    _check_name(name)
    return _FORBIDDEN[name]


def _check_name(name):
    if not isinstance(name, str) or name not in _FORBIDDEN:
        raise BadName("not the name of a class")
