"""Values that are not what an entry of the interface asks for."""


class Anything:
    """Equal to everything, and with items like a set; but no tuple, integer, string or Matroid."""

    def __eq__(self, other):
        return True

    def __hash__(self):
        return hash(())

    def __len__(self):
        return 0

    def __iter__(self):
        return iter(())


class Nothing:
    """Cannot be compared, measured, hashed, or asked whether it is true."""

    __hash__ = None

    def __eq__(self, other):
        raise RuntimeError("compared")

    def __lt__(self, other):
        raise RuntimeError("compared")

    def __len__(self):
        raise RuntimeError("measured")

    def __bool__(self):
        raise RuntimeError("asked")


OTHERS = [
    None, True, False, 0, 1, -1, 1.5, 10 ** 40, "", "0", b"", b"\x00\x01", [], [0], [()], {}, {0: 1},
    {(): 0}, set(), {0}, frozenset(), frozenset((0,)), range(0), range(2), iter(()), object(), tuple, int, len,
    Anything(), Nothing(), slice(1), 1j,
]

NO_INTEGERS = [
    None, True, False, 0.0, 1.0, 2.5, float("nan"), "0", "", b"0", (), (0,), [], [0], {}, {0}, object(), int,
    Anything(), Nothing(), 1j,
]

# None of these is an element, whatever the ground.
NO_ELEMENTS = NO_INTEGERS + [-1, 200, 10 ** 40, -10 ** 40]

# None of these is a set, whatever the ground.
NO_SETS = OTHERS + [(thing,) for thing in NO_ELEMENTS] + [
    (0, True), (False, 1), (0, 1.0), (0, "1"), (0, None), (1, 0), (0, 0), (0, 1, 1), (0, 2, 1), (0, 200), (-1, 0),
    ((), ()), ([0, 1],),
]


def no_sets_within(ground):
    """None of these is a set within the ground."""
    strange = [x for x in (0, 1, 2, 3, 50, 198, 199) if x not in ground]
    return NO_SETS + [(x,) for x in strange] + [tuple(sorted(ground + (x,))) for x in strange]


def no_tuples_of_sets(ground):
    """None of these is an ascending tuple of different sets within the ground."""
    last = ground[-1:]
    inside = [(thing,) for thing in no_sets_within(ground)]
    behind = [((), thing) for thing in no_sets_within(ground)]
    orders = [((), ()), (last, ()), (last, last), ((), last, last), (ground, ()), [(), last], [()], [last], ground]
    return OTHERS + inside + behind + [thing for thing in orders if thing != () and thing != ((),)]
