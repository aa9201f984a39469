"""Texts that tell matroids, a line for the ground and one for each base."""

from rankwright.checks import is_set, is_set_within
from rankwright.errors import BadText
from rankwright.limits import MAX_ELEMENT, MAX_GROUND
from rankwright.matroids import Matroid, check_matroid


def write(matroid):
    """The text of a matroid."""
    check_matroid(matroid)
    lines = [_line_of("ground", matroid.ground)]
    for base in matroid.bases:
        lines.append(_line_of("base", base))
    return "\n".join(lines)


def _line_of(word, members):
    return " ".join([word] + [str(one) for one in members])


def read(source):
    """The Matroid that a text tells."""
    if not isinstance(source, str):
        raise BadText(0)
    lines = source.split("\n")
    ground = _members_in(lines[0], "ground")
    if not is_set(ground) or len(ground) > MAX_GROUND:
        raise BadText(1)
    bases = []
    for number, line in enumerate(lines[1:], 2):
        base = _members_in(line, "base")
        if not is_set_within(base, ground) or (bases and base <= bases[-1]):
            raise BadText(number)
        bases.append(base)
    if not bases:
        raise BadText(len(lines) + 1)
    return Matroid(ground, tuple(bases))


def _members_in(line, word):
    """The tuple of the numbers behind a word, or None for a line without this form."""
    words = line.split(" ")
    if words[0] != word or not all([_is_number(told) for told in words[1:]]):
        return None
    return tuple([int(told) for told in words[1:]])


def _is_number(told):
    """Whether a word is a number as Python writes it, and not longer than those of elements."""
    return told.isdecimal() and len(told) <= len(str(MAX_ELEMENT)) and str(int(told)) == told
