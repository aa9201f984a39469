"""Parts, splits, two-sums, and the pieces of a matroid."""

from rankwright.errors import BadPieces, Unlike
from rankwright.joints import are_pieces, is_joint, joint_of, sum_along
from rankwright.limits import FIRST_MARKER, MAX_GROUND
from rankwright.masks import sets_of, sets_within, sizes_of_masks
from rankwright.matroids import check_matroid, sure_matroid
from rankwright.sets import is_within, rest_of, together


def parts_of(matroid):
    """The smallest nonempty sets with connectivity 0."""
    check_matroid(matroid)
    connectivity = _connectivity(matroid)
    parts = []
    # A mask within another one is less than it, so it is met before.
    for mask in range(1, len(connectivity)):
        if connectivity[mask] == 0 and not any([mask & part == part for part in parts]):
            parts.append(mask)
    return sets_of(parts, matroid.ground)


def _connectivity(matroid):
    """For each mask its connectivity."""
    ranks = matroid.mask_ranks
    full = len(ranks) - 1
    return [ranks[mask] + ranks[full ^ mask] - ranks[full] for mask in range(full + 1)]


def splits_of(matroid):
    """The sets along which a matroid with one part can be cut."""
    _check_one_part(matroid)
    return sets_of(_split_masks(matroid), matroid.ground)


def good_splits_of(matroid):
    """The splits that cross no split."""
    _check_one_part(matroid)
    splits = _split_masks(matroid)
    full = len(matroid.mask_ranks) - 1
    return sets_of([split for split in splits if not _crosses_one(split, splits, full)], matroid.ground)


def _split_masks(matroid):
    many = len(matroid.ground)
    connectivity = _connectivity(matroid)
    sizes = sizes_of_masks(many)
    # The least element of the ground has the lowest bit.
    return [mask for mask in range(1, 1 << many, 2) if 2 <= sizes[mask] <= many - 2 and connectivity[mask] == 1]


def _crosses_one(split, splits, full):
    # All splits have the least element in common.
    for other in splits:
        if split & ~other and other & ~split and (split | other) != full:
            return True
    return False


def _check_one_part(matroid):
    if len(parts_of(matroid)) != 1:
        raise Unlike("not just one part")


def two_sum(one, other):
    """The two-sum of two matroids with one common element."""
    check_matroid(one)
    check_matroid(other)
    element = joint_of(one, other)
    if element is None or not is_joint(element, one, other):
        raise Unlike("not just one common element, or a loop or a coloop")
    if len(one.ground) + len(other.ground) - 2 > MAX_GROUND:
        raise Unlike(f"the sum has more than {MAX_GROUND} elements")
    return sum_along(element, one, other)


def pieces_of(matroid):
    """The pieces into which the good splits cut a matroid with one part."""
    _check_one_part(matroid)
    if len(matroid.ground) < 3:
        raise Unlike("less than 3 elements")
    if matroid.ground[-1] >= FIRST_MARKER:
        raise Unlike(f"an element that is not below {FIRST_MARKER}")
    cuts = [(FIRST_MARKER + number, side) for number, side in enumerate(good_splits_of(matroid))]
    return tuple(sorted(_cut_along(matroid, cuts), key=lambda piece: piece.ground))


def _cut_along(matroid, cuts):
    """What is left when a matroid is cut along some good splits: pairs of a marker and either side of the split."""
    if not cuts:
        return [matroid]
    marker, side = cuts[0]
    rest = rest_of(matroid.ground, side)
    one, other = _cut_off(matroid, side, rest, marker), _cut_off(matroid, rest, side, marker)
    return [*_cut_along(one, _cuts_within(side, matroid.ground, cuts[1:])),
            *_cut_along(other, _cuts_within(rest, matroid.ground, cuts[1:]))]


def _cuts_within(side, ground, cuts):
    """The cuts of which a side lies within one side of the cut just made; that side stays as it is."""
    sides = [(marker, other) for marker, other in cuts] + [(marker, rest_of(ground, other)) for marker, other in cuts]
    return [(marker, other) for marker, other in sides if is_within(other, side)]


def _cut_off(matroid, side, rest, marker):
    """The one of the two matroids whose two-sum along the marker is this one that is on a side and the marker."""
    rank = matroid.rank_of(side)
    free = [members for members in sets_within(side) if matroid.is_independent(members)]
    # Without the marker the rank of a set stays, with it one element less is needed where it raises the rank.
    raised = [members for members in free
              if len(members) == rank - 1 and _is_raised(matroid, members, rest)]
    bases = [members for members in free if len(members) == rank]
    return sure_matroid(together(side, (marker,)), bases + [together(members, (marker,)) for members in raised])


def _is_raised(matroid, members, rest):
    """Whether the marker raises the rank of an independent set on the other side of the rest."""
    return matroid.rank_of(together(members, rest)) != len(members) + matroid.rank_of(rest) - 1


def joined_of(pieces):
    """The matroid that two-sums along common elements make of some pieces."""
    if not are_pieces(pieces):
        raise BadPieces("not a tuple of matroids that two-sums can join")
    joined = pieces[0]
    waiting = list(pieces[1:])
    while waiting:
        beside = [at for at, other in enumerate(waiting) if joint_of(joined, other) is not None]
        piece = waiting.pop(beside[0])
        joined = sum_along(joint_of(joined, piece), joined, piece)
    return joined
