"""What DOC.md [13] to [15] say, word by word and slowly, for tests to compare with."""

from tests import words


def connectivity(ground, bases, members):
    rest = words.without(ground, *members)
    return words.rank(bases, members) + words.rank(bases, rest) - len(bases[0])


def parts(ground, bases):
    apart = [members for members in words.sets_within(ground) if members and connectivity(ground, bases, members) == 0]
    return tuple(members for members in apart if not any(words.is_properly_within(other, members) for other in apart))


def splits(ground, bases):
    return tuple(members for members in words.sets_within(ground)
                 if 2 <= len(members) <= len(ground) - 2 and ground[0] in members
                 and connectivity(ground, bases, members) == 1)


def cross(ground, one, other):
    rest, other_rest = words.without(ground, *one), words.without(ground, *other)
    return all(words.common(x, y) for x in (one, rest) for y in (other, other_rest))


def good_splits(ground, bases):
    found = splits(ground, bases)
    return tuple(one for one in found if not any(cross(ground, one, other) for other in found))


def sum_circuits(one, other, marker):
    """The circuits of a two-sum, of which each matroid is told by a pair of its ground and its circuits."""
    kept = [circuit for circuit in one[1] + other[1] if marker not in circuit]
    joined = [words.without(words.together(c, d), marker) for c in one[1] for d in other[1] if marker in c and marker in d]
    return tuple(sorted(set(kept + joined)))


def side_ranks(ground, bases, side, marker):
    """The ranks of the one of the two matroids that is on a side and the marker."""
    rest = words.without(ground, *side)
    ranks = {}
    for members in words.sets_within(side):
        rank = words.rank(bases, members)
        stays = words.rank(bases, words.together(members, rest)) == rank + words.rank(bases, rest) - 1
        ranks[members] = rank
        ranks[words.together(members, (marker,))] = rank if stays else rank + 1
    return ranks


def bases_by_ranks(ranks):
    whole = max(ranks, key=len)
    return tuple(sorted(members for members, rank in ranks.items() if len(members) == rank == ranks[whole]))


def is_split(ground, bases, members):
    """Whether a set or its rest is a split."""
    return 2 <= len(members) <= len(ground) - 2 and connectivity(ground, bases, members) == 1


def pieces(ground, bases, order):
    """Pairs of the ground and the bases of the pieces, cut along the good splits with the numbers in an order."""
    good = good_splits(ground, bases)
    sides = {number: good[number] for number in order}
    state = [(ground, bases, sides)]
    for number in order:
        at, = [at for at, piece in enumerate(state) if number in piece[2]]
        state[at:at + 1] = cut(*state[at], number)
    return sorted((piece_ground, piece_bases) for piece_ground, piece_bases, _ in state)


def cut(ground, bases, sides, number):
    """The two pieces that a cut leaves, each with those other splits of it that are still to be cut."""
    side, marker = sides[number], 150 + number
    rest = words.without(ground, *side)
    one = (words.together(side, (marker,)), bases_by_ranks(side_ranks(ground, bases, side, marker)), {})
    other = (words.together(rest, (marker,)), bases_by_ranks(side_ranks(ground, bases, rest, marker)), {})
    for left, members in sides.items():
        if left != number:
            both = (members, words.without(ground, *members))
            within = any(words.is_within(x, side) for x in both)
            into, gone = (one, rest) if within else (other, side)
            kept = words.without(members, *gone)
            # What was cut off is all on one side of the other split.
            into[2][left] = words.together(kept, (marker,)) if words.common(members, gone) else kept
            assert is_split(into[0], into[1], into[2][left])
    return [one, other]
