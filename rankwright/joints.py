"""Joints: the common elements along which two-sums join matroids."""

from rankwright.limits import MAX_GROUND
from rankwright.matroids import Matroid, sure_matroid
from rankwright.sets import common_of, rest_of, together

_MAX_PIECES = 8


def joint_of(one, other):
    """The only common element of two matroids, or None if there is not just one."""
    common = common_of(one.ground, other.ground)
    return common[0] if len(common) == 1 else None


def is_joint(element, one, other):
    """Whether a common element is no loop and no coloop in either matroid."""
    return not any([element in matroid.loops or element in matroid.coloops for matroid in (one, other)])


def sum_along(element, one, other):
    """The two-sum of two matroids along their joint."""
    # Two bases make one of the sum just if one of them has the joint, for which the other one stands in.
    bases = {rest_of(together(base, behind), (element,)): True for base in one.bases for behind in other.bases
             if (element in base) != (element in behind)}
    return sure_matroid(rest_of(together(one.ground, other.ground), (element,)), list(bases))


def are_pieces(thing):
    """Whether thing is a tuple of matroids that hang together in a tree by joints and are not too many."""
    if not isinstance(thing, tuple) or not 1 <= len(thing) <= _MAX_PIECES:
        return False
    if not all([isinstance(piece, Matroid) for piece in thing]):
        return False
    # Three with one common element would be three pairs, and so no tree.
    pairs = [(low, high) for high in range(len(thing)) for low in range(high)
             if common_of(thing[low].ground, thing[high].ground)]
    if not all([_are_joined(thing[low], thing[high]) for low, high in pairs]):
        return False
    many = sum([len(piece.ground) for piece in thing]) - 2 * len(pairs)
    return many <= MAX_GROUND and len(pairs) == len(thing) - 1 and _hang_together(pairs, len(thing))


def _are_joined(one, other):
    element = joint_of(one, other)
    return element is not None and is_joint(element, one, other)


def _hang_together(pairs, many):
    """Whether pairs of places lead from the first of so many places to all."""
    labels = list(range(many))
    for low, high in pairs:
        labels = [labels[low] if label == labels[high] else label for label in labels]
    return all([label == labels[0] for label in labels])
