"""Ways to named matroids."""

from itertools import combinations

from rankwright.checks import is_order_of, is_set_within
from rankwright.makers import NAMES, named
from rankwright.masks import mask_of, places_in, sets_within
from rankwright.orders import images_of, least_order, ranks_at
from rankwright.sets import rest_of


def least_way_to(matroid, name):
    """The least way to a named matroid, or None."""
    goal = named(name)
    contractions = _independent_masks(matroid)
    best = None
    for places in combinations(range(len(matroid.ground)), len(goal.ground)):
        # No order of these places, and none of later ones, is less than the places themselves.
        if best is not None and best[0] <= places:
            break
        best = _better_way(best, places, goal, contractions, matroid.mask_ranks)
    if best is None:
        return None
    order, mask = best
    contracted = [matroid.ground[at] for at in places_in(mask, len(matroid.ground))]
    return (name, tuple([matroid.ground[at] for at in order]), tuple(contracted))


def _independent_masks(matroid):
    """The masks of the independent sets, the smaller ones first, those as large ascending.

    Contracting others is not needed: an element that is a loop then can be deleted as well.
    """
    sets = [members for members in sets_within(matroid.ground) if matroid.is_independent(members)]
    return [mask_of(members, matroid.ground) for members in sorted(sets, key=len)]


def _better_way(best, places, goal, contractions, ranks):
    """The best pair of an order and what is contracted: the given one, or one with these places."""
    images = images_of(places)
    for gone in contractions:
        if images[-1] & gone == 0 and ranks[images[-1] | gone] - ranks[gone] == goal.rank:
            order = least_order(goal.mask_ranks, ranks_at(images, ranks, gone))
            if order is not None:
                way = tuple([places[at] for at in order])
                # For one order the fewest elements and the least ones come first.
                if best is None or way < best[0]:
                    best = (way, gone)
                if way == places:
                    return best
    return best


def is_way_in(matroid, thing):
    """Whether thing is a way to a named matroid."""
    if not isinstance(thing, tuple) or len(thing) != 3:
        return False
    name, order, contracted = thing
    if not isinstance(name, str) or name not in NAMES or not is_order_of(order, matroid.ground):
        return False
    goal = named(name)
    if len(order) != len(goal.ground) or not is_set_within(contracted, rest_of(matroid.ground, order)):
        return False
    images = images_of([matroid.ground.index(element) for element in order])
    gone = mask_of(contracted, matroid.ground)
    return ranks_at(images, matroid.mask_ranks, gone) == goal.mask_ranks
