"""Whether two matroids are alike: mappings, apart trees and forms."""

from itertools import permutations
from math import factorial

from rankwright.apart import least_pairs
from rankwright.checks import is_ascending, is_order_of, is_set_within
from rankwright.errors import TooMany, Unlike
from rankwright.limits import MAX_FORM, MAX_PAIR, MAX_TREE
from rankwright.masks import masks_of, places_in, set_of
from rankwright.matroids import check_matroid
from rankwright.orders import least_order, order_count


def mapping_between(one, other):
    """The least mapping from one matroid to another one, or None."""
    _check_pair(one, other)
    _check_many(one, MAX_PAIR)
    order = least_order(one.mask_ranks, other.mask_ranks)
    return None if order is None else _at_places(order, other.ground)


def is_mapping(one, other, thing):
    """Whether thing is a mapping from one matroid to another one."""
    check_matroid(one)
    check_matroid(other)
    if not is_order_of(thing, other.ground) or not len(thing) == len(one.ground) == len(other.ground):
        return False
    images = {element: image for element, image in zip(one.ground, thing)}
    bases = [tuple(sorted([images[element] for element in base])) for base in one.bases]
    return tuple(sorted(bases)) == other.bases


def apart_tree(one, other):
    """The least apart tree for two matroids, or None if they are alike."""
    _check_pair(one, other)
    _check_many(one, MAX_TREE)
    if least_order(one.mask_ranks, other.mask_ranks) is not None:
        return None
    pairs = least_pairs(one.mask_ranks, other.mask_ranks)
    return tuple([(_at_places(order, other.ground), set_of(mask, one.ground)) for order, mask in pairs])


def is_apart_tree(one, other, thing):
    """Whether thing is an apart tree for two matroids."""
    _check_pair(one, other)
    _check_many(one, MAX_TREE)
    if not isinstance(thing, tuple) or not all([_is_pair(pair, one, other) for pair in thing]):
        return False
    paths = [path for path, _ in thing]
    return is_ascending(paths) and _is_met_once(paths, len(one.ground))


def _is_pair(thing, one, other):
    """Whether thing is a path with a set of elements whose rank is not that of their images."""
    if not isinstance(thing, tuple) or len(thing) != 2 or not is_order_of(thing[0], other.ground):
        return False
    path, members = thing
    if not is_set_within(members, one.ground[:len(path)]):
        return False
    images = [image for element, image in zip(one.ground, path) if element in members]
    return one.rank_of(members) != other.rank_of(tuple(sorted(images)))


def _is_met_once(paths, many):
    """Whether every tuple of different images of so many elements begins with just one of the ascending paths."""
    # A path that another one begins with is the beginning of the path just ahead of that.
    for at in range(len(paths) - 1):
        if paths[at] == paths[at + 1][:len(paths[at])]:
            return False
    # Then no tuple begins with two paths, so that counting tells whether each begins with one.
    return sum([factorial(many - len(path)) for path in paths]) == factorial(many)


def form_of(matroid):
    """The form of a matroid."""
    check_matroid(matroid)
    _check_many(matroid, MAX_FORM)
    many = len(matroid.ground)
    bases = [places_in(mask, many) for mask in masks_of(matroid.bases, matroid.ground)]
    return (many, min([_renamed(bases, order) for order in permutations(range(many))]))


def _renamed(bases, order):
    return tuple(sorted([tuple(sorted([order[at] for at in base])) for base in bases]))


def symmetry_count(matroid):
    """The number of mappings from a matroid to itself."""
    check_matroid(matroid)
    _check_many(matroid, MAX_TREE)
    return order_count(matroid.mask_ranks)


def _at_places(order, ground):
    return tuple([ground[place] for place in order])


def _check_pair(one, other):
    check_matroid(one)
    check_matroid(other)
    if len(one.ground) != len(other.ground):
        raise Unlike("not as many elements")


def _check_many(matroid, most):
    if len(matroid.ground) > most:
        raise TooMany(most)
