"""Whether values are integers, elements, sets, grounds and tuples of sets."""

from rankwright.errors import BadGround, BadSet, BadSets
from rankwright.limits import MAX_ELEMENT, MAX_GROUND


def is_integer(thing):
    """Whether thing is an int that is not a bool."""
    return isinstance(thing, int) and not isinstance(thing, bool)


def is_element(thing):
    """Whether thing is an integer within the bounds of elements."""
    return is_integer(thing) and 0 <= thing <= MAX_ELEMENT


def is_element_of(thing, ground):
    """Whether thing is an element of a ground."""
    # A tuple has True and 1.0 "in" it where it has 1, so the kind is asked first.
    return is_element(thing) and thing in ground


def is_ascending(things):
    """Whether each thing is less than the next one, so that all are different."""
    return all([things[at] < things[at + 1] for at in range(len(things) - 1)])


def is_set(thing):
    """Whether thing is an ascending tuple of different elements."""
    if not isinstance(thing, tuple):
        return False
    return all([is_element(one) for one in thing]) and is_ascending(thing)


def is_set_within(thing, ground):
    """Whether thing is a set all of whose elements the ground has."""
    return is_set(thing) and all([one in ground for one in thing])


def are_sets_within(thing, ground):
    """Whether thing is an ascending tuple of different sets within the ground."""
    if not isinstance(thing, tuple):
        return False
    return all([is_set_within(one, ground) for one in thing]) and is_ascending(thing)


def check_ground(ground):
    """Raise BadGround for what is no ground."""
    if not is_set(ground) or len(ground) > MAX_GROUND:
        raise BadGround(f"not an ascending tuple of at most {MAX_GROUND} integers from 0 to {MAX_ELEMENT}")


def check_sets(things, ground):
    """Raise BadSets for what is no ascending tuple of different sets within the ground."""
    if not are_sets_within(things, ground):
        raise BadSets("not an ascending tuple of different sets within the ground")


def check_set(members, ground):
    """Raise BadSet for what is no set within the ground."""
    if not is_set_within(members, ground):
        raise BadSet("not a set within the ground")
