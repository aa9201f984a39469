"""Tables of the four kinds: their form, and the bases that they lead to."""

from rankwright.checks import are_sets_within, is_integer, is_set_within
from rankwright.masks import flags_above, flags_below, masks_of, sets_of, sets_within, sizes_of_masks

KINDS = ("bases", "circuits", "ranks", "flats")


def is_kind(thing):
    """Whether thing is the name of a kind of tables."""
    return isinstance(thing, str) and thing in KINDS


def is_table(kind, ground, thing):
    """Whether thing has the form of a table of a kind."""
    if kind == "ranks":
        return is_rank_table(ground, thing)
    return are_sets_within(thing, ground)


def is_rank_table(ground, thing):
    """Whether thing is a dict from just all sets within the ground to integers from 0 on."""
    if not isinstance(thing, dict) or len(thing) != 1 << len(ground):
        return False
    # Keys are asked one by one, for a dict finds (True,) as a key where it is asked for (1,).
    if not all([is_set_within(key, ground) for key in thing]):
        return False
    return all([is_integer(rank) and rank >= 0 for rank in thing.values()])


def bases_in(kind, ground, table):
    """The bases of the matroid that a table without a fault tells."""
    if kind == "bases":
        return table
    if kind == "circuits":
        return bases_by_circuits(ground, table)
    if kind == "ranks":
        return bases_by_ranks(ground, table)
    return bases_by_flats(ground, table)


def bases_by_circuits(ground, circuits):
    """The largest sets without a circuit in them."""
    many = len(ground)
    sizes = sizes_of_masks(many)
    dependent = flags_above(masks_of(circuits, ground), many)
    independent = [mask for mask in range(1 << many) if not dependent[mask]]
    rank = max([sizes[mask] for mask in independent])
    return sets_of([mask for mask in independent if sizes[mask] == rank], ground)


def bases_by_flats(ground, flats):
    """The smallest sets that lie in no flat but the ground."""
    many = len(ground)
    sizes = sizes_of_masks(many)
    full = (1 << many) - 1
    short = flags_below([mask for mask in masks_of(flats, ground) if mask != full], many)
    spanning = [mask for mask in range(1 << many) if not short[mask]]
    rank = min([sizes[mask] for mask in spanning])
    return sets_of([mask for mask in spanning if sizes[mask] == rank], ground)


def bases_by_ranks(ground, table):
    """The sets whose size is both their own rank and that of the ground."""
    rank = table[ground]
    return tuple([members for members in sets_within(ground) if table[members] == rank == len(members)])
