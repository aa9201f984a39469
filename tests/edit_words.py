"""What DOC.md [19] to [21] say, word by word and slowly, for tests to compare with."""

from rankwright.classes import least_way as found_way
from tests import alike_words, class_words, words

NAMES = sorted(class_words.CLASSES)
KEPT = {}


def report(old, new):
    old_circuits, new_circuits = (words.circuits(x.ground, x.bases) for x in (old, new))
    changed = [members for members in words.sets_within(words.common(old.ground, new.ground))
               if words.rank(old.bases, members) != words.rank(new.bases, members)]
    return (tuple(x for x in new.bases if x not in old.bases), tuple(x for x in old.bases if x not in new.bases),
            tuple(x for x in new_circuits if x not in old_circuits), tuple(x for x in old_circuits if x not in new_circuits),
            changed[0] if changed else None)


def least_verdict(matroid, name):
    """The verdict with the least way; by trying all of them where these are few."""
    key = matroid.ground, matroid.bases, name
    if key not in KEPT:
        way = class_words.least_way(matroid, name) if len(matroid.ground) <= 5 else found_way(matroid, name)
        KEPT[key] = ("yes",) if way is None else ("no", way)
    return KEPT[key]


def is_way(matroid, way):
    name, order, contracted = way
    return (words.is_within(order + contracted, matroid.ground) and class_words.is_way(matroid, name, order, contracted))


class Model:
    """An editor that works everything out again."""

    def __init__(self, matroid):
        self.matroid = matroid
        self.verdicts = {name: least_verdict(matroid, name) for name in NAMES}
        self.stayed = ()
        self.past = []

    def edited(self, new, contracted=(), kind="edit"):
        """The report of an edit that leads to a new matroid."""
        old, before = self.matroid, self.verdicts
        after, stayed = {}, []
        for name in NAMES:
            after[name] = least_verdict(new, name)
            if kind == "edit" and before[name][0] == after[name][0] == "no":
                way = before[name][1][:2] + (words.without(before[name][1][2], *contracted),)
                if is_way(new, way):
                    after[name] = ("no", way)
                    stayed.append(name)
            elif before[name] == after[name]:
                stayed.append(name)
        self.past = (self.past + [(old, before)])[-20:]
        self.matroid, self.verdicts, self.stayed = new, after, tuple(stayed)
        return report(old, new)

    def undone(self):
        old, before = self.matroid, self.verdicts
        self.matroid, self.verdicts = self.past.pop()
        self.stayed = tuple(name for name in NAMES if before[name] == self.verdicts[name])
        return report(old, self.matroid)


class PairModel:
    """A pair editor that works everything out again."""

    def __init__(self, one, other):
        self.one, self.other = one, other
        self.mapping = min(alike_words.mappings(one, other), default=None)

    def edited(self, one, other, gone=None, come=None):
        """The answer to an edit; `gone` and `come` are pairs of elements that went and came."""
        images = None if self.mapping is None else dict(zip(self.one.ground, self.mapping))
        if images is not None and gone is not None:
            images = {x: y for x, y in images.items() if x != gone[0]} if images[gone[0]] == gone[1] else None
        if images is not None and come is not None:
            images[come[0]] = come[1]
        self.one, self.other = one, other
        mappings = alike_words.mappings(one, other)
        if images is not None and tuple(images[x] for x in one.ground) in mappings:
            self.mapping = tuple(images[x] for x in one.ground)
            return "kept"
        self.mapping = min(mappings, default=None)
        return "apart" if self.mapping is None else "new"
