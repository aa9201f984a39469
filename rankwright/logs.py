"""Deleting, contracting, and logs of such steps: replayed, normal and plain."""

from rankwright.checks import check_ground, check_set, is_set_within
from rankwright.errors import BadStep
from rankwright.limits import MAX_LOG
from rankwright.masks import sets_within
from rankwright.matroids import check_matroid, sure_matroid
from rankwright.sets import rest_of, together


def deleted(matroid, members):
    """The matroid on the other elements with the same independent sets."""
    check_matroid(matroid)
    check_set(members, matroid.ground)
    return _cut_down(matroid, members, matroid.rank_of(rest_of(matroid.ground, members)))


def contracted(matroid, members):
    """The matroid on the other elements that gives a set what it adds to the rank of the members."""
    check_matroid(matroid)
    check_set(members, matroid.ground)
    return _cut_down(matroid, members, matroid.rank - matroid.rank_of(members))


def _cut_down(matroid, gone, size):
    """The matroid whose bases are what is left of the bases, as far as it has a size."""
    rests = sorted({rest_of(base, gone) for base in matroid.bases})
    return sure_matroid(rest_of(matroid.ground, gone), [rest for rest in rests if len(rest) == size])


def replayed(matroid, log):
    """The matroid that the steps of a log lead to."""
    check_matroid(matroid)
    # The normal log does the same to every matroid, in three steps at most.
    contraction, deletion, turned = _done_by(log, matroid.ground)
    left = deleted(contracted(matroid, contraction), deletion)
    return left.dual() if turned else left


def normal_of(log, ground):
    """The normal log of a log."""
    check_ground(ground)
    contraction, deletion, turned = _done_by(log, ground)
    return _log_with(contraction, deletion, turned)


def plain_of(matroid, log):
    """The plain log of a log for a matroid."""
    check_matroid(matroid)
    contraction, deletion, turned = _done_by(log, matroid.ground)
    wanted = deleted(contracted(matroid, contraction), deletion).bases
    gone = together(contraction, deletion)
    for members in sets_within(gone):
        if _bases_left(matroid, members, rest_of(gone, members)) == wanted:
            return _log_with(members, rest_of(gone, members), turned)


def _bases_left(matroid, contraction, deletion):
    """The bases of the matroid that contracting one set and deleting another one leaves.

    () if the one is dependent, or the other one is so in the dual: just then no
    base has all of the one and nothing of the other one.
    """
    kept = [base for base in matroid.bases if rest_of(base, deletion) == base]
    # What is taken from all of these that count is the same, so that they stay ascending.
    rests = [rest_of(base, contraction) for base in kept]
    return tuple([rest for rest in rests if len(rest) == matroid.rank - len(contraction)])


def _done_by(log, ground):
    """What a log contracts and deletes in the matroid at its start, and whether it takes the dual then."""
    if not isinstance(log, tuple):
        raise BadStep(-1)
    contraction, deletion, turned = (), (), False
    for place, step in enumerate(log):
        if place == MAX_LOG or not _is_step(step, rest_of(ground, contraction + deletion)):
            raise BadStep(place)
        if step[0] == "dual":
            turned = not turned
        elif (step[0] == "contract") != turned:
            contraction = together(contraction, step[1])
        else:
            deletion = together(deletion, step[1])
    return contraction, deletion, turned


def _is_step(thing, ground):
    if not isinstance(thing, tuple) or not thing or not isinstance(thing[0], str):
        return False
    if thing[0] == "dual":
        return len(thing) == 1
    return thing[0] in ("contract", "delete") and len(thing) == 2 and is_set_within(thing[1], ground)


def _log_with(contraction, deletion, turned):
    """The log with these steps, but for those that do nothing."""
    steps = []
    if contraction:
        steps.append(("contract", contraction))
    if deletion:
        steps.append(("delete", deletion))
    if turned:
        steps.append(("dual",))
    return tuple(steps)
