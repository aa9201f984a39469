"""Common sets of two matroids on one ground, and their covers."""

from rankwright.checks import is_set_within
from rankwright.errors import BadSet, Unlike
from rankwright.masks import common_mask, mask_of, set_of, sets_of, sizes_of_masks
from rankwright.matroids import check_matroid


def greatest_common(one, other):
    """The least of the greatest common sets."""
    _check_pair(one, other)
    sizes = _common_sizes(one, other)
    most = max(sizes.values())
    return sets_of([mask for mask in sizes if sizes[mask] == most], one.ground)[0]


def _common_sizes(one, other):
    """The sizes of the masks that are independent in both matroids."""
    sizes = sizes_of_masks(len(one.ground))
    ranks, others = one.mask_ranks, other.mask_ranks
    return {mask: size for mask, size in enumerate(sizes) if ranks[mask] == others[mask] == size}


def least_cover(one, other):
    """The cover of the greatest common sets that is in all others."""
    _check_pair(one, other)
    most = max(_common_sizes(one, other).values())
    covers = [mask for mask in range(len(one.mask_ranks)) if _worth(mask, one, other) == most]
    return set_of(common_mask(covers), one.ground)


def _worth(mask, one, other):
    """The rank of a mask in the one and of the rest in the other one: common sets have no more elements."""
    return one.mask_ranks[mask] + other.mask_ranks[len(other.mask_ranks) - 1 - mask]


def is_cover(one, other, common, thing):
    """Whether thing is a cover of a common set."""
    _check_pair(one, other)
    if not is_set_within(common, one.ground) or not one.is_independent(common) or not other.is_independent(common):
        raise BadSet("not a common set")
    return is_set_within(thing, one.ground) and _worth(mask_of(thing, one.ground), one, other) == len(common)


def _check_pair(one, other):
    check_matroid(one)
    check_matroid(other)
    if one.ground != other.ground:
        raise Unlike("not on one ground")
