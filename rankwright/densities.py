"""The chain of densities and even families, told by masks and the ranks of all masks."""

from math import gcd

from rankwright.masks import places_in, sizes_of_masks
from rankwright.orders import images_of, ranks_at


def chain_masks(ranks):
    """The masks of the chain."""
    chain = [0]
    while chain[-1] != len(ranks) - 1:
        chain.append(_densest_behind(chain[-1], ranks))
    return chain


def _densest_behind(inner, ranks):
    """The greatest of the masks with most elements for the rank that they add to a mask."""
    sizes = _sizes_for(ranks)
    best, best_size, best_rank = inner, 0, 1
    for mask in range(inner + 1, len(ranks)):
        if mask & inner == inner:
            size, rank = sizes[mask] - sizes[inner], ranks[mask] - ranks[inner]
            # No other one is as dense and as great, for the union of two that are as dense is so, too.
            if (size * best_rank, size) > (best_size * rank, best_size):
                best, best_size, best_rank = mask, size, rank
    return best


def is_falling(masks, ranks):
    """Whether each mask lies in the next one, is not equal to it, and the quotients fall."""
    sizes = _sizes_for(ranks)
    steps = []
    for inner, outer in zip(masks, masks[1:]):
        if inner & outer != inner or ranks[inner] == ranks[outer]:
            return False
        steps.append((sizes[outer] - sizes[inner], ranks[outer] - ranks[inner]))
    return all([steps[at][0] * steps[at + 1][1] > steps[at + 1][0] * steps[at][1] for at in range(len(steps) - 1)])


def _sizes_for(ranks):
    return sizes_of_masks((len(ranks) - 1).bit_length())


def share_of(size, rank):
    """How many bases an even family has, and how often each element stands in them."""
    return (size // gcd(size, rank), rank // gcd(size, rank))


def even_sets(inner, outer, ranks):
    """The masks of an even family for two masks side by side in the chain."""
    places = places_in(outer ^ inner, outer.bit_length())
    images = images_of(places)
    own_ranks = ranks_at(images, ranks, inner)
    bases = [mask for mask, size in enumerate(sizes_of_masks(len(places))) if size == own_ranks[mask] == own_ranks[-1]]
    many, times = share_of(len(places), own_ranks[-1])
    needed = [times] * len(places)
    found = []
    for left in reversed(range(many)):
        base = _base_that_leaves(needed, left, bases, own_ranks)
        needed = _without(base, needed)
        found.append(images[base])
    return found


def _base_that_leaves(needed, left, bases, ranks):
    """The first base without which so many bases can have all elements as often as they are still needed.

    They can just if no mask is needed more often than so many bases can have it,
    for as many elements are needed then as so many bases have. As long as that
    holds, there always is such a base.
    """
    for base in bases:
        totals = _totals(_without(base, needed))
        if all([total <= left * rank for total, rank in zip(totals, ranks)]):
            return base
    return None


def _without(base, needed):
    return [number - ((base >> at) & 1) for at, number in enumerate(needed)]


def _totals(numbers):
    """For each mask the sum of the numbers at its places."""
    totals = [0]
    for number in numbers:
        totals = totals + [total + number for total in totals]
    return totals
