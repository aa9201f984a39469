"""Whether values are integers, elements, sets, grounds, tuples of sets, matrices, graphs and families."""

from rankwright.errors import BadGround, BadSet, BadSets
from rankwright.limits import MAX_ELEMENT, MAX_FAMILY, MAX_GROUND, MAX_VERTEX

_MAX_ROWS = 10


def is_integer(thing):
    """Whether thing is an int that is not a bool."""
    return isinstance(thing, int) and not isinstance(thing, bool)


def is_element(thing):
    """Whether thing is an integer within the bounds of elements."""
    return is_integer(thing) and 0 <= thing <= MAX_ELEMENT


def is_element_of(thing, ground):
    """Whether thing is an element of a ground."""
    # A tuple has True and 1.0 "in" it where it has 1, so the kind is asked first.
    return is_element(thing) and thing in ground


def is_ascending(things):
    """Whether each thing is less than the next one, so that all are different."""
    return all([things[at] < things[at + 1] for at in range(len(things) - 1)])


def is_set(thing):
    """Whether thing is an ascending tuple of different elements."""
    if not isinstance(thing, tuple):
        return False
    return all([is_element(one) for one in thing]) and is_ascending(thing)


def is_set_within(thing, ground):
    """Whether thing is a set all of whose elements the ground has."""
    return is_set(thing) and all([one in ground for one in thing])


def is_order_of(thing, ground):
    """Whether thing is a tuple of different elements of the ground, in any order."""
    if not isinstance(thing, tuple) or not all([is_element_of(one, ground) for one in thing]):
        return False
    return is_ascending(sorted(thing))


def are_sets_within(thing, ground):
    """Whether thing is an ascending tuple of different sets within the ground."""
    if not isinstance(thing, tuple):
        return False
    return all([is_set_within(one, ground) for one in thing]) and is_ascending(thing)


def is_matrix(thing, number, ground):
    """Whether thing is a tuple of rows over a number, each with an entry for each element of the ground."""
    if not isinstance(thing, tuple) or len(thing) > _MAX_ROWS:
        return False
    return all([_is_row(row, number, len(ground)) for row in thing])


def _is_row(thing, number, many):
    if not isinstance(thing, tuple) or len(thing) != many:
        return False
    return all([is_integer(entry) and 0 <= entry < number for entry in thing])


def is_graph(thing, ground):
    """Whether thing is a tuple with an edge for each element of the ground."""
    if not isinstance(thing, tuple) or len(thing) != len(ground):
        return False
    return all([_is_edge(edge) for edge in thing])


def _is_edge(thing):
    if not isinstance(thing, tuple) or len(thing) != 2:
        return False
    return all([is_integer(vertex) for vertex in thing]) and 0 <= thing[0] <= thing[1] <= MAX_VERTEX


def is_family(thing, ground):
    """Whether thing is a tuple of not too many sets within the ground."""
    if not isinstance(thing, tuple) or len(thing) > MAX_FAMILY:
        return False
    return all([is_set_within(members, ground) for members in thing])


def check_ground(ground):
    """Raise BadGround for what is no ground."""
    if not is_set(ground) or len(ground) > MAX_GROUND:
        raise BadGround(f"not an ascending tuple of at most {MAX_GROUND} integers from 0 to {MAX_ELEMENT}")


def check_sets(things, ground):
    """Raise BadSets for what is no ascending tuple of different sets within the ground."""
    if not are_sets_within(things, ground):
        raise BadSets("not an ascending tuple of different sets within the ground")


def check_set(members, ground):
    """Raise BadSet for what is no set within the ground."""
    if not is_set_within(members, ground):
        raise BadSet("not a set within the ground")


def check_base(base, bases):
    """Raise BadSet for what is none of the bases."""
    if not is_set(base) or base not in bases:
        raise BadSet("not a base")
