"""What DOC.md [4] to [7] and [12] say, word by word and slowly, for tests to compare with."""

from itertools import combinations, permutations, product

from tests import words


def greatest(sets):
    """The sets of the greatest size, ascending."""
    sets = list(sets)
    size = max(len(members) for members in sets)
    return tuple(sorted(members for members in sets if len(members) == size))


def independent_sets(ground, bases):
    return [members for members in words.sets_within(ground) if words.rank(bases, members) == len(members)]


# [4]


def matrix_bases(number, rows, ground):
    return greatest(members for members in words.sets_within(ground)
                    if columns_are_independent(number, rows, [ground.index(x) for x in members]))


def columns_are_independent(number, rows, places):
    """Whether no combination of the columns but that with factors 0 alone is 0 in each row."""
    for factors in product(range(number), repeat=len(places)):
        sums = [sum(factor * row[at] for factor, at in zip(factors, places)) % number for row in rows]
        if any(factors) and not any(sums):
            return False
    return True


def graph_bases(edges, ground):
    return greatest(members for members in words.sets_within(ground)
                    if not has_cycle([edges[ground.index(x)] for x in members]))


def has_cycle(edges):
    """Whether some of the edges, gone along in some order and direction, lead back, through no vertex twice."""
    return any(leads_back(walk) for size in range(1, len(edges) + 1) for walk in permutations(edges, size))


def leads_back(walk):
    return any(is_cycle([edge[::turn] for edge, turn in zip(walk, turns)])
               for turns in product((1, -1), repeat=len(walk)))


def is_cycle(steps):
    starts, ends = [u for u, v in steps], [v for u, v in steps]
    return ends == starts[1:] + starts[:1] and len(set(starts)) == len(starts)


def family_bases(family, ground):
    return greatest(members for members in words.sets_within(ground) if can_be_placed(members, family))


def can_be_placed(members, family):
    return any(all(x in family[place] for x, place in zip(members, places))
               for places in permutations(range(len(family)), len(members)))


# [5]


def ranks_without(ground, bases, gone):
    rest = words.without(ground, *gone)
    return {members: words.rank(bases, members) for members in words.sets_within(rest)}


def ranks_after_contracting(ground, bases, gone):
    rest = words.without(ground, *gone)
    return {members: words.rank(bases, words.together(members, gone)) - words.rank(bases, gone)
            for members in words.sets_within(rest)}


def bases_by_ranks(ranks):
    return greatest(members for members, rank in ranks.items() if rank == len(members))


def truncated_bases(ground, bases):
    return tuple(members for members in independent_sets(ground, bases) if len(members) == len(bases[0]) - 1)


def summed_bases(one, other):
    return tuple(sorted(words.together(base, behind) for base in one for behind in other))


# [6]


def after_step(ground, bases, step):
    if step[0] == "dual":
        return ground, words.dual_bases(ground, bases)
    how = {"delete": ranks_without, "contract": ranks_after_contracting}[step[0]]
    return words.without(ground, *step[1]), bases_by_ranks(how(ground, bases, step[1]))


def after_log(ground, bases, log):
    for step in log:
        ground, bases = after_step(ground, bases, step)
    return ground, bases


def normal_log(log):
    contracted, gone = set(), set()
    for place, step in enumerate(log):
        odd = sum(ahead == ("dual",) for ahead in log[:place]) % 2 == 1
        if step != ("dual",):
            gone |= set(step[1])
            if step[0] == ("delete" if odd else "contract"):
                contracted |= set(step[1])
    turned = sum(step == ("dual",) for step in log) % 2 == 1
    return log_with(tuple(sorted(contracted)), tuple(sorted(gone - contracted)), turned)


def log_with(contracted, deleted, turned):
    return (((("contract", contracted),) if contracted else ())
            + ((("delete", deleted),) if deleted else ()) + ((("dual",),) if turned else ()))


def normal_logs(ground):
    """All normal logs for a ground, as triples of what they contract, what they delete and whether they turn."""
    for ways in product(("stay", "contract", "delete"), repeat=len(ground)):
        contracted = tuple(x for x, way in zip(ground, ways) if way == "contract")
        deleted = tuple(x for x, way in zip(ground, ways) if way == "delete")
        for turned in (False, True):
            yield contracted, deleted, turned


def plain_log(ground, bases, log):
    wanted = after_log(ground, bases, log)
    dual = words.dual_bases(ground, bases)
    turned = ("dual",) in normal_log(log)
    pairs = [(one, other) for one, other, also in normal_logs(ground) if also == turned
             and words.rank(bases, one) == len(one) and words.rank(dual, other) == len(other)
             and after_log(ground, bases, log_with(one, other, turned)) == wanted]
    return log_with(*min(pairs), turned)


def steps(ground):
    """All steps that can be done on a ground."""
    return [("dual",)] + [(kind, members) for kind in ("contract", "delete") for members in words.sets_within(ground)]


def logs(ground, many):
    """All logs of so many steps on a ground."""
    if many == 0:
        yield ()
        return
    for step in steps(ground):
        left = ground if step == ("dual",) else words.without(ground, *step[1])
        for behind in logs(left, many - 1):
            yield (step,) + behind


# [7]


def is_cut(flats, ranks, told):
    for flat in told:
        if any(words.is_within(flat, other) and other not in told for other in flats):
            return False
    return not any(is_modular(ranks, one, other) and words.common(one, other) not in told
                   for one, other in combinations(told, 2))


def is_modular(ranks, one, other):
    return ranks[one] + ranks[other] == ranks[words.common(one, other)] + ranks[words.together(one, other)]


def cuts(ground, bases):
    """All cuts: the sets of flats that have all that their flats bring."""
    flats, ranks = words.flats(ground, bases), words.ranks(ground, bases)
    return tuple(sorted(told for told in words.families(flats) if is_cut(flats, ranks, set(told))))


def smallest_cut(all_cuts, flats):
    """Of some cuts the smallest one that has the flats."""
    holding = [cut for cut in all_cuts if words.is_within(flats, cut)]
    smallest, = [cut for cut in holding if all(words.is_within(cut, other) for other in holding)]
    return smallest


def cut_in_rounds(ground, bases, flats):
    """The cut of some flats: what they bring is added until nothing more comes."""
    all_flats, ranks = words.flats(ground, bases), words.ranks(ground, bases)
    told = set(flats)
    while True:
        brought = {flat for flat in all_flats if any(words.is_within(low, flat) for low in told)}
        brought |= {words.common(f, g) for f, g in combinations(sorted(told), 2) if is_modular(ranks, f, g)}
        if brought <= told:
            return tuple(sorted(told))
        told |= brought


def extended_ranks(ground, bases, element, cut):
    ranks = words.ranks(ground, bases)
    for members in words.sets_within(ground):
        raised = words.closure(ground, bases, members) not in cut
        ranks[words.together(members, (element,))] = ranks[members] + (1 if raised else 0)
    return ranks


def can_be_relaxed(ground, bases, members):
    return members in words.circuits(ground, bases) and members in words.hyperplanes(ground, bases)


def is_free(ground, bases, base):
    outside = words.without(ground, *base)
    return bool(base) and bool(outside) and all(
        words.together(words.without(base, b), (e,)) in bases for b in base for e in outside)
