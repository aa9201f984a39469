"""Matroids by matrices, graphs and families, uniform and named ones, sums and truncations."""

from itertools import combinations

from rankwright.checks import check_ground, is_family, is_graph, is_integer, is_matrix
from rankwright.errors import BadFamily, BadGraph, BadMatrix, BadName, BadNumber, Unlike
from rankwright.growth import bases_by_family, bases_by_graph, bases_by_matrix
from rankwright.limits import MAX_FAMILY, MAX_GROUND, MAX_VERTEX
from rankwright.matroids import check_matroid, sure_matroid
from rankwright.sets import sets_one_less, together

NAMES = ("U24", "U25", "U35", "F7", "F7*", "K33", "K5", "K33*", "K5*")

_UNIFORM = {"U24": (2, 4), "U25": (2, 5), "U35": (3, 5)}
_DUAL = {"F7*": "F7", "K33*": "K33", "K5*": "K5"}
_LINES = ((0, 1, 2), (0, 3, 4), (0, 5, 6), (1, 3, 5), (1, 4, 6), (2, 3, 6), (2, 4, 5))


def by_matrix(number, rows, ground):
    """The matroid in which the sets are independent whose columns are so."""
    if not is_integer(number) or number not in (2, 3):
        raise BadNumber("neither 2 nor 3")
    check_ground(ground)
    if not is_matrix(rows, number, ground):
        raise BadMatrix(f"not a tuple of rows with an entry below {number} for each element of the ground")
    return sure_matroid(ground, bases_by_matrix(number, rows, ground))


def by_graph(edges, ground):
    """The matroid in which the sets of edges without a cycle are independent."""
    check_ground(ground)
    if not is_graph(edges, ground):
        raise BadGraph(f"not a tuple of edges (u, v), 0 <= u <= v <= {MAX_VERTEX}, one for each element")
    return sure_matroid(ground, bases_by_graph(edges, ground))


def by_family(family, ground):
    """The matroid in which the sets are independent whose elements can be given different places."""
    check_ground(ground)
    if not is_family(family, ground):
        raise BadFamily(f"not a tuple of at most {MAX_FAMILY} sets within the ground")
    return sure_matroid(ground, bases_by_family(family, ground))


def uniform(size, ground):
    """The matroid in which all sets of a size are bases."""
    check_ground(ground)
    if not is_integer(size) or not 0 <= size <= len(ground):
        raise BadNumber("not an integer from 0 to the number of elements")
    bases = [tuple([ground[at] for at in places]) for places in combinations(range(len(ground)), size)]
    return sure_matroid(ground, bases)


def summed(one, other):
    """The sum of two matroids without a common element."""
    check_matroid(one)
    check_matroid(other)
    ground = together(one.ground, other.ground)
    if len(ground) < len(one.ground) + len(other.ground):
        raise Unlike("the grounds have a common element")
    if len(ground) > MAX_GROUND:
        raise Unlike(f"more than {MAX_GROUND} elements together")
    bases = [together(base, behind) for base in one.bases for behind in other.bases]
    return sure_matroid(ground, bases)


def truncated(matroid):
    """The matroid whose bases are the independent sets of one element less than the rank."""
    check_matroid(matroid)
    if matroid.rank == 0:
        raise Unlike("the rank is 0")
    return sure_matroid(matroid.ground, sets_one_less(matroid.bases))


def named(name):
    """The matroid that has a name."""
    if not isinstance(name, str) or name not in NAMES:
        raise BadName("not the name of a matroid")
    if name in _DUAL:
        return named(_DUAL[name]).dual()
    if name in _UNIFORM:
        size, many = _UNIFORM[name]
        return uniform(size, tuple(range(many)))
    if name == "F7":
        triples = [triple for triple in combinations(range(7), 3) if triple not in _LINES]
        return sure_matroid(tuple(range(7)), triples)
    if name == "K33":
        return by_graph(tuple([(low, 3 + high) for low in range(3) for high in range(3)]), tuple(range(9)))
    return by_graph(tuple(combinations(range(5), 2)), tuple(range(10)))
