"""What DOC.md [16] to [18] say, word by word and slowly, for tests to compare with."""

from itertools import combinations, combinations_with_replacement, product
from math import gcd

from tests import words


# [16]


def common_sets(one, other):
    return [members for members in words.sets_within(one.ground)
            if words.rank(one.bases, members) == words.rank(other.bases, members) == len(members)]


def is_cover(one, other, common, members):
    rest = words.without(one.ground, *members)
    return len(common) == words.rank(one.bases, members) + words.rank(other.bases, rest)


def covers(one, other, common):
    return [members for members in words.sets_within(one.ground) if is_cover(one, other, common, members)]


def in_all_others(sets):
    """Of some sets the one that is in all others."""
    least, = [members for members in sets if all(words.is_within(members, other) for other in sets)]
    return least


# [17]


def is_packing(matroid, sets):
    return (all(words.rank(matroid.bases, members) == len(members) for members in sets)
            and not any(words.common(sets[low], sets[high]) for high in range(len(sets)) for low in range(high)))


def packings(matroid, many):
    """All packings of so many sets."""
    for places in product(range(many + 1), repeat=len(matroid.ground)):
        sets = tuple(tuple(x for x, at in zip(matroid.ground, places) if at == place) for place in range(many))
        if is_packing(matroid, sets):
            yield sets


def is_bound(matroid, sets, members):
    outside = words.without(matroid.ground, *members)
    return sum(map(len, sets)) == len(outside) + len(sets) * words.rank(matroid.bases, members)


def bounds(matroid, sets):
    return [members for members in words.sets_within(matroid.ground) if is_bound(matroid, sets, members)]


# [18]


def steps_up(ground, start=()):
    """All tuples of sets, each in the next one and not equal, that begin with a set and lead to the ground."""
    if start == ground:
        yield (start,)
        return
    for members in words.sets_within(ground):
        if words.is_properly_within(start, members):
            for rest in steps_up(ground, members):
                yield (start,) + rest


def numbers(matroid, sets):
    """The pairs of s_i and r_i."""
    return [(len(outer) - len(inner), words.rank(matroid.bases, outer) - words.rank(matroid.bases, inner))
            for inner, outer in zip(sets, sets[1:])]


def is_falling(matroid, sets):
    pairs = numbers(matroid, sets)
    return (all(r >= 1 for s, r in pairs)
            and all(s * next_r > next_s * r for (s, r), (next_s, next_r) in zip(pairs, pairs[1:])))


def is_chain(matroid, sets):
    if not is_falling(matroid, sets):
        return False
    for (s, r), inner, outer in zip(numbers(matroid, sets), sets, sets[1:]):
        for members in words.sets_within(words.without(outer, *inner)):
            more = words.rank(matroid.bases, words.together(inner, members)) - words.rank(matroid.bases, inner)
            if len(members) * r > s * more:
                return False
    return True


def chain(matroid):
    found, = [sets for sets in steps_up(matroid.ground) if is_chain(matroid, sets)]
    return found


def step_bases(matroid, inner, outer):
    """The bases of the matroid on what an outer set has more than an inner one."""
    def rank(members):
        return words.rank(matroid.bases, words.together(inner, members)) - words.rank(matroid.bases, inner)
    fresh = words.without(outer, *inner)
    return [members for members in combinations(fresh, rank(fresh)) if rank(members) == len(members)]


def is_even(matroid, inner, outer, family):
    s = len(outer) - len(inner)
    r = words.rank(matroid.bases, outer) - words.rank(matroid.bases, inner)
    bases = step_bases(matroid, inner, outer)
    return (len(family) == s // gcd(s, r) and all(base in bases for base in family)
            and list(family) == sorted(family)
            and all(sum(x in base for base in family) == r // gcd(s, r) for x in words.without(outer, *inner)))


def are_even(matroid, sets, families):
    return len(families) == len(sets) - 1 and all(
        is_even(matroid, inner, outer, family) for inner, outer, family in zip(sets, sets[1:], families))


def even_ones(matroid, inner, outer):
    """All even families for two sets side by side."""
    s = len(outer) - len(inner)
    r = words.rank(matroid.bases, outer) - words.rank(matroid.bases, inner)
    bases = step_bases(matroid, inner, outer)
    return [family for family in combinations_with_replacement(bases, s // gcd(s, r))
            if is_even(matroid, inner, outer, family)]
