"""The least apart tree of two matroids that are told by the ranks of all their masks."""

from rankwright.masks import places_in
from rankwright.orders import images_with, keeps_row, places_left


def least_pairs(ranks, others):
    """The pairs of an order and a mask in the least apart tree, where no order keeps all ranks."""
    return _pairs_behind((), [0], _masks_by_sets(len(ranks)), ranks, others)


def _masks_by_sets(many):
    """The masks below a number, in the order of the sets that they stand for."""
    return sorted(range(many), key=lambda mask: places_in(mask, many.bit_length()))


def _pairs_behind(order, images, masks, ranks, others):
    """The pairs whose orders begin with this one, which keeps the ranks of all masks that have images by it."""
    pairs = []
    for place in places_left(order, ranks):
        longer = (*order, place)
        added = images_with(images, place)
        wider = images + added
        if keeps_row(added, ranks, others):
            pairs.extend(_pairs_behind(longer, wider, masks, ranks, others))
        else:
            pairs.append((longer, _first_unlike(wider, masks, ranks, others)))
    return pairs


def _first_unlike(images, masks, ranks, others):
    for mask in masks:
        if mask < len(images) and ranks[mask] != others[images[mask]]:
            return mask
    return None
