"""Verdicts: for each class ("yes",), or ("no", way) with a way to a forbidden matroid."""

from rankwright.classes import CLASSES, is_way, least_way
from rankwright.sets import rest_of


def least_verdicts(matroid):
    """The verdicts with the least ways."""
    return {name: _least_verdict(matroid, name) for name in CLASSES}


def _least_verdict(matroid, name):
    way = least_way(matroid, name)
    return ("yes",) if way is None else ("no", way)


def verdicts_behind(verdicts, matroid, contracted):
    """The verdicts behind an edit that leads to a matroid and has contracted some elements, and what has stayed."""
    kept = {name: _verdict_kept(verdicts[name], matroid, contracted) for name in CLASSES}
    behind = {}
    stayed = []
    for name in CLASSES:
        behind[name] = _least_verdict(matroid, name) if kept[name] is None else kept[name]
        if kept[name] is not None or verdicts[name] == behind[name]:
            stayed.append(name)
    return behind, tuple(stayed)


def _verdict_kept(verdict, matroid, contracted):
    """The verdict with the way that was kept, if it is one in the matroid, or None."""
    if verdict == ("yes",):
        return None
    name, order, members = verdict[1]
    way = (name, order, rest_of(members, contracted))
    return ("no", way) if is_way(matroid, way) else None


def equal_verdicts(verdicts, others):
    """The names of the classes whose verdicts are equal."""
    return tuple([name for name in CLASSES if verdicts[name] == others[name]])
