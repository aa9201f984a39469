"""Sets as masks, and what follows from the ranks of all masks.

Bit k of a mask stands for the element at place k of the ground; `many` is the
number of elements of the ground. A list over masks has an item for each mask.
"""


def set_of(mask, ground):
    """The set that a mask stands for."""
    return tuple([one for at, one in enumerate(ground) if (mask >> at) & 1])


def sets_of(masks, ground):
    """The sets that masks stand for, as an ascending tuple."""
    return tuple(sorted([set_of(mask, ground) for mask in masks]))


def mask_of(members, ground):
    """The mask of a set within the ground."""
    return sum([1 << at for at, one in enumerate(ground) if one in members])


def masks_of(sets, ground):
    """The masks of sets within the ground, in the order of the sets."""
    bits = {one: 1 << at for at, one in enumerate(ground)}
    return [sum([bits[one] for one in members]) for members in sets]


def sets_within(ground):
    """All sets within the ground, ascending."""
    return tuple(sorted([set_of(mask, ground) for mask in range(1 << len(ground))]))


def places_in(mask, many):
    """The places of a mask, ascending."""
    return [at for at in range(many) if (mask >> at) & 1]


def places_outside(mask, many):
    """The places that a mask does not have, ascending."""
    return [at for at in range(many) if not (mask >> at) & 1]


def sizes_of_masks(many):
    """For each mask the number of its places."""
    sizes = [0]
    for _ in range(many):
        sizes = sizes + [size + 1 for size in sizes]
    return sizes


def flags_above(masks, many):
    """For each mask whether one of the given masks lies within it."""
    flags = [False] * (1 << many)
    for mask in masks:
        flags[mask] = True
    for mask in range(1 << many):
        if flags[mask]:
            for at in range(many):
                flags[mask | (1 << at)] = True
    return flags


def flags_below(masks, many):
    """For each mask whether it lies within one of the given masks."""
    flags = [False] * (1 << many)
    for mask in masks:
        flags[mask] = True
    for mask in reversed(range(1 << many)):
        if flags[mask]:
            for at in range(many):
                flags[mask & ~(1 << at)] = True
    return flags


def ranks_by_bases(masks, many):
    """For each mask the greatest number of places that one of the bases has in it."""
    independent = flags_below(masks, many)
    # Of each mask a greatest independent one within it tells whether one place more raises the rank.
    ranks = [0]
    greatest = [0]
    for at in range(many):
        for mask in range(1 << at):
            wider = greatest[mask] | (1 << at)
            raised = independent[wider]
            ranks.append(ranks[mask] + 1 if raised else ranks[mask])
            greatest.append(wider if raised else greatest[mask])
    return ranks


def closure_mask(mask, ranks, many):
    """The mask with all places that do not raise its rank."""
    return sum([1 << at for at in range(many) if ranks[mask | (1 << at)] == ranks[mask]])


def circuit_masks(ranks, many):
    """The dependent masks without a smaller dependent one in them."""
    return [mask for mask in range(1 << many) if is_circuit_mask(mask, ranks, many)]


def is_circuit_mask(mask, ranks, many):
    """Whether a mask is dependent, and without any of its places is not."""
    places = places_in(mask, many)
    fewer = len(places) - 1
    return ranks[mask] == fewer and all([ranks[mask ^ (1 << at)] == fewer for at in places])


def flat_masks(ranks, many):
    """The masks that are their own closures."""
    return [mask for mask in range(1 << many) if closure_mask(mask, ranks, many) == mask]


def common_mask(masks):
    """The places that all of some masks have, of which there is one at least."""
    common = masks[0]
    for mask in masks:
        common = common & mask
    return common
