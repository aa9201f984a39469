"""Orders: tuples of different places, one for each place of a matroid, told from the first place on.

Place k of an order is the place of another matroid to which place k goes. The
images of an order are a list with that mask of the other one to which each
mask goes. A row is a tuple with a number for each mask of a matroid.
"""

from rankwright.masks import sizes_of_masks


def images_of(order):
    """The images of an order."""
    images = [0]
    for place in order:
        images = images + images_with(images, place)
    return images


def images_with(images, place):
    """The images of those masks that have the next place, which goes to this one."""
    return [mask | (1 << place) for mask in images]


def ranks_at(images, ranks, gone):
    """The rank of each image when the places of a mask are contracted."""
    return tuple([ranks[mask | gone] - ranks[gone] for mask in images])


def keeps_row(added, row, other):
    """Whether the images of the masks that have the next place have the numbers of these."""
    return tuple([other[mask] for mask in added]) == row[len(added):2 * len(added)]


def places_left(order, row):
    """The places that an order does not have yet."""
    return [place for place in range(_many_of(row)) if place not in order]


def _many_of(row):
    """How many places a row is over: as many as the mask of all of them has bits."""
    return (len(row) - 1).bit_length()


def orders_between(order, images, row, other):
    """All orders that begin with this one and keep all numbers of a row, ascending."""
    if len(images) == len(row):
        yield order
        return
    for place in places_left(order, row):
        added = images_with(images, place)
        if keeps_row(added, row, other):
            longer = (*order, place)
            wider = images + added
            yield from orders_between(longer, wider, row, other)


def least_order(ranks, others):
    """The least order that keeps all ranks, or None."""
    # Without one this is nearly always told at once by how often each rank occurs.
    if sorted(ranks) == sorted(others):
        row, other = _base_counts(ranks), _base_counts(others)
        for order in orders_between((), [0], row, other):
            return order
    return None


def order_count(ranks):
    """How many orders of the places of a matroid keep its ranks."""
    row = _base_counts(ranks)
    return len(list(orders_between((), [0], row, row)))


def _base_counts(ranks):
    """For each mask in how many bases it lies.

    Just the orders that keep the ranks keep these, too, but a wrong beginning of
    an order is nearly always told by these far sooner than by the ranks.
    """
    many = _many_of(ranks)
    counts = [1 if rank == size == ranks[-1] else 0 for rank, size in zip(ranks, sizes_of_masks(many))]
    for at in range(many):
        for mask in range(1 << many):
            if not (mask >> at) & 1:
                counts[mask] = counts[mask] + counts[mask | (1 << at)]
    return tuple(counts)
