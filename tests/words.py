"""What DOC.md [1] to [3] say, word by word and slowly, for tests to compare with."""

from itertools import combinations


def sets_within(ground):
    return sorted(members for size in range(len(ground) + 1) for members in combinations(ground, size))


def families(sets, step=1):
    """Every step-th of all ascending tuples of different ones of the sets."""
    for number in range(0, 2 ** len(sets), step):
        yield tuple(members for at, members in enumerate(sets) if number >> at & 1)


def together(*sets):
    return tuple(sorted(set().union(*sets)))


def without(members, *gone):
    return tuple(x for x in members if x not in gone)


def common(one, other):
    return tuple(x for x in one if x in other)


def is_within(one, other):
    return set(one) <= set(other)


def is_properly_within(one, other):
    return set(one) < set(other)


def rank(bases, members):
    return max(len(common(base, members)) for base in bases)


def circuits(ground, bases):
    dependent = [members for members in sets_within(ground) if rank(bases, members) < len(members)]
    return tuple(members for members in dependent
                 if not any(is_properly_within(other, members) for other in dependent))


def closure(ground, bases, members):
    return tuple(x for x in ground
                 if x in members or rank(bases, together(members, (x,))) == rank(bases, members))


def flats(ground, bases):
    return tuple(members for members in sets_within(ground) if closure(ground, bases, members) == members)


def hyperplanes(ground, bases):
    return tuple(flat for flat in flats(ground, bases) if rank(bases, flat) == len(bases[0]) - 1)


def loops(ground, bases):
    return tuple(x for x in ground if all(x not in base for base in bases))


def coloops(ground, bases):
    return tuple(x for x in ground if all(x in base for base in bases))


def dual_bases(ground, bases):
    return tuple(sorted(without(ground, *base) for base in bases))


def ranks(ground, bases):
    return {members: rank(bases, members) for members in sets_within(ground)}


def table(kind, ground, bases):
    if kind == "bases":
        return bases
    return {"circuits": circuits, "flats": flats, "ranks": ranks}[kind](ground, bases)


def fault(kind, ground, told):
    """The first kind of fault that there is, and of all its tuples the least one."""
    kinds = {"bases": base_faults, "circuits": circuit_faults, "ranks": rank_faults, "flats": flat_faults}
    for found in kinds[kind](ground, told):
        if found:
            return min(found)
    return None


def base_faults(ground, told):
    yield [("empty",)] if not told else []
    yield [("sizes", a, b) for a in told for b in told if a < b and len(a) != len(b)]
    yield [("exchange", a, b, x) for a in told for b in told for x in without(a, *b)
           if not any(together(without(a, x), (y,)) in told for y in without(b, *a))]


def circuit_faults(ground, told):
    yield [("empty",)] if () in told else []
    yield [("within", c, d) for c in told for d in told if is_properly_within(c, d)]
    yield [("elimination", c, d, e) for c in told for d in told if c < d for e in common(c, d)
           if not any(is_within(other, without(together(c, d), e)) for other in told)]


def rank_faults(ground, told):
    yield [("start",)] if told[()] != 0 else []
    yield [("step", members, x) for members in told for x in without(ground, *members)
           if told[together(members, (x,))] not in (told[members], told[members] + 1)]
    yield [("pair", members, x, y) for members in told
           for x in without(ground, *members) for y in without(ground, *members)
           if x < y and told[members] == told[together(members, (x,))] == told[together(members, (y,))]
           and told[together(members, (x, y))] > told[members]]


def flat_faults(ground, told):
    yield [("ground",)] if ground not in told else []
    yield [("meet", f, g) for f in told for g in told if f < g and common(f, g) not in told]
    yield [("cover", f, x) for f in told for x in without(ground, *f)
           if sum(x in g for g in smallest_above(f, told)) != 1]


def smallest_above(flat, told):
    above = [other for other in told if is_properly_within(flat, other)]
    return [other for other in above if not any(is_properly_within(lower, other) for lower in above)]


def all_bases(ground):
    """The bases of every matroid on a ground, told by [1] alone."""
    for size in range(len(ground) + 1):
        for told in families(list(combinations(ground, size))):
            if fault("bases", ground, told) is None:
                yield told
