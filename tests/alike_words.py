"""What DOC.md [8] and [9] say, word by word and slowly, for tests to compare with."""

from itertools import permutations

from tests import words


def is_mapping(one, other, images):
    """Whether different images take just the bases of the one to bases of the other one."""
    to = dict(zip(one.ground, images))
    return all((members in one.bases) == (tuple(sorted(to[x] for x in members)) in other.bases)
               for members in words.sets_within(one.ground))


def mappings(one, other):
    return [images for images in permutations(other.ground) if is_mapping(one, other, images)]


def fits(one, other, path, members):
    """Whether the rank of a set of elements with images by a path is not that of these images."""
    to = dict(zip(one.ground, path))
    images = tuple(sorted(to[x] for x in members))
    return words.rank(one.bases, members) != words.rank(other.bases, images)


def fitting(one, other, path):
    """All sets that fit a path, ascending."""
    return [members for members in words.sets_within(one.ground[:len(path)]) if fits(one, other, path, members)]


def least_tree(one, other):
    paths = [path for many in range(len(other.ground) + 1) for path in permutations(other.ground, many)]
    fitted = {path for path in paths if fitting(one, other, path)}
    first = sorted(path for path in fitted if not any(path[:many] in fitted for many in range(len(path))))
    return tuple((path, fitting(one, other, path)[0]) for path in first)


def is_tree(one, other, pairs):
    """Whether pairs of a path and a set within its elements are an apart tree."""
    paths = [path for path, members in pairs]
    return (all(fits(one, other, path, members) for path, members in pairs)
            and all(low < high for low, high in zip(paths, paths[1:]))
            and all(sum(images[:len(path)] == path for path in paths) == 1 for images in permutations(other.ground)))


def form(matroid):
    many = len(matroid.ground)
    renamings = [dict(zip(matroid.ground, names)) for names in permutations(range(many))]
    return many, min(tuple(sorted(tuple(sorted(to[x] for x in base)) for base in matroid.bases)) for to in renamings)
