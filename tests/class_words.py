"""What DOC.md [10] to [12] say, word by word and slowly, for tests to compare with."""

from itertools import combinations, permutations, product

from rankwright.makers import named
from tests import making_words, words

CLASSES = ("binary", "ternary", "regular", "graphic", "cographic", "planar")
ROWS = {
    "binary": ["U24"], "ternary": ["U25", "U35", "F7", "F7*"], "regular": ["U24", "F7", "F7*"],
    "graphic": ["U24", "F7", "F7*", "K5*", "K33*"], "cographic": ["U24", "F7", "F7*", "K5", "K33"],
    "planar": ["U24", "F7", "F7*", "K5", "K33", "K5*", "K33*"],
}


# [10]


def fundamental_circuit(bases, base, element):
    circuit, = words.circuits(words.together(base, (element,)), bases)
    return circuit


def is_joined(row, column, taken):
    """Whether a chain of taken entries leads from a row to a column."""
    reached = {entry for entry in taken if entry[0] == row}
    while True:
        more = {entry for entry in taken if any(entry[0] == x or entry[1] == y for x, y in reached)}
        if more <= reached:
            return any(entry[1] == column for entry in reached)
        reached |= more


def taken_and_free(ground, bases):
    """The entries outside the frame that are not 0: those that are taken, and the others."""
    frame = min(bases)
    circuits = {e: fundamental_circuit(bases, frame, e) for e in ground if e not in frame}
    taken, free = [], []
    for row, column in product(frame, circuits):
        if row in circuits[column]:
            (free if is_joined(row, column, taken) else taken).append((row, column))
    return taken, free


def normal_matrices(number, ground, bases):
    """All normal matrices over 2 or over 3."""
    frame = min(bases)
    taken, free = taken_and_free(ground, bases)
    for values in product(range(1, number), repeat=len(free)):
        told = {entry: 1 for entry in taken + [(f, f) for f in frame]} | dict(zip(free, values))
        yield tuple(tuple(told.get((f, e), 0) for e in ground) for f in frame)


def is_normal(number, ground, bases, rows):
    """Whether rows are one of the normal matrices."""
    frame = min(bases)
    taken, free = taken_and_free(ground, bases)
    told = {(f, e): entry for f, row in zip(frame, rows) for e, entry in zip(ground, row)}
    ones = taken + [(f, f) for f in frame]
    return (len(rows) == len(frame) and all(len(row) == len(ground) for row in rows)
            and all(told[entry] == 1 for entry in ones) and all(0 < told[entry] < number for entry in free)
            and all(told[entry] == 0 for entry in told if entry not in ones and entry not in free))


def telling_matrix(number, ground, bases):
    """The normal matrix that tells a matroid, or None."""
    told = [rows for rows in normal_matrices(number, ground, bases)
            if making_words.matrix_bases(number, rows, ground) == bases]
    return told[0] if told else None


# [11]


def graphs(many, last=-1):
    """All graphs with so many edges, but for the names of the vertices: each new one has the next number."""
    if many == 0:
        yield ()
        return
    for u in range(last + 2):
        for v in range(max(last, u) + 2):
            for rest in graphs(many - 1, max(last, u, v)):
                yield ((min(u, v), max(u, v)),) + rest


# [12]


def minor(matroid, order, contracted):
    """The bases when all others are deleted, a set contracted, and order[i] renamed to i."""
    def rank(members):
        return words.rank(matroid.bases, words.together(members, contracted)) - words.rank(matroid.bases, contracted)
    return tuple(places for places in combinations(range(len(order)), rank(order))
                 if rank(tuple(order[at] for at in places)) == len(places))


def is_way(matroid, name, order, contracted):
    goal = named(name)
    return len(order) == len(goal.ground) and minor(matroid, order, contracted) == goal.bases


def least_way(matroid, kind):
    """The least of all ways to a forbidden matroid of a class, or None, by trying all orders and contracted sets."""
    row = ROWS[kind]
    for name in sorted(row, key=lambda name: (len(named(name).ground), row.index(name))):
        ways = list(ways_to(matroid, name))
        if ways:
            order, _, contracted = min(ways)
            return name, order, contracted
    return None


def ways_to(matroid, name):
    goal = named(name)
    wanted = set(goal.bases)
    kept = {}
    for order in permutations(matroid.ground, len(goal.ground)):
        chosen = tuple(sorted(order))
        if chosen not in kept:
            rest = words.sets_within(words.without(matroid.ground, *chosen))
            minors = [(gone, minor(matroid, chosen, gone)) for gone in rest]
            kept[chosen] = [(gone, bases) for gone, bases in minors if len(bases) == len(goal.bases)]
        at = [order.index(x) for x in chosen]
        for gone, bases in kept[chosen]:
            # There are as many bases, so that none may be left over if each has its like.
            if all(tuple(sorted([at[x] for x in base])) in wanted for base in bases):
                yield order, len(gone), gone
