"""Sets put together and taken apart."""


def together(one, other):
    """The set of all that either of two sets has."""
    return tuple(sorted(set([*one, *other])))


def rest_of(members, gone):
    """What is left of a set without what is gone."""
    return tuple([one for one in members if one not in gone])


def sets_one_less(sets):
    """All sets that are one of these without one of its elements, ascending."""
    return tuple(sorted({rest_of(members, (gone,)) for members in sets for gone in members}))


def common_of(one, other):
    """The set of all that both of two sets have."""
    return tuple([member for member in one if member in other])


def is_within(one, other):
    """Whether a set has nothing that another one has not."""
    return all([member in other for member in one])
