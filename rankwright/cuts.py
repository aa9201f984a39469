"""Cuts: sets of flats, as ascending tuples of masks. `ranks` has the rank of each mask."""


def cut_with(cut, more, flats, ranks):
    """The smallest cut that has a cut and more flats in it, of all flats."""
    known = {flat: True for flat in cut}
    waiting = list(more)
    while waiting:
        flat = waiting.pop()
        if flat not in known:
            known[flat] = True
            waiting.extend(_brought_by(flat, known, flats, ranks))
    return tuple(sorted(known))


def _brought_by(flat, known, flats, ranks):
    """What a cut with a flat and others that are known must have, too."""
    above = [wider for wider in flats if wider & flat == flat]
    common = [flat & other for other in known if _is_modular(flat, other, ranks)]
    return [mask for mask in above + common if mask not in known]


def _is_modular(one, other, ranks):
    return ranks[one] + ranks[other] == ranks[one & other] + ranks[one | other]


def all_cuts(flats, ranks):
    """All cuts, in any order."""
    # Each cut comes from () by one flat after the other, with what each brings.
    known = {(): True}
    waiting = [()]
    while waiting:
        cut = waiting.pop()
        for flat in flats:
            wider = cut_with(cut, (flat,), flats, ranks)
            if wider not in known:
                known[wider] = True
                waiting.append(wider)
    return list(known)
