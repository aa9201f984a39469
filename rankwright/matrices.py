"""Normal matrices.

The rows belong to the elements of the frame, the columns that are looked for
to the other elements; both are told by masks. A minor is the determinant of
the square of some rows and as many columns. It is not 0 exactly if the frame
with the elements of the columns in place of those of the rows is a base.
"""

from rankwright.masks import mask_of, masks_of, places_in, places_outside
from rankwright.orders import images_of


def normal_matrix(number, matroid):
    """The normal matrix over 2 or 3 that tells a matroid, or None."""
    many = len(matroid.ground)
    frame = mask_of(matroid.bases[0], matroid.ground)
    columns = _columns_telling(number, matroid, frame)
    if columns is None:
        return None
    rows = [[column[row] for column in columns] for row in range(matroid.rank)]
    scaled = _scaled(rows, number, len(columns))
    places = places_in(frame, many)
    return tuple([_whole_row(place, entries, frame, many) for place, entries in zip(places, scaled)])


def _whole_row(place, entries, frame, many):
    """The row of an element of the frame, from its entries outside the frame."""
    row = [0] * many
    row[place] = 1
    for at, entry in zip(places_outside(frame, many), entries):
        row[at] = entry
    return tuple(row)


def _columns_telling(number, matroid, frame):
    """Columns over a number that tell a matroid, or None.

    Any two matrices over 2 or 3 that tell the same are made from one another by
    factors for the rows and the columns. So each column that does not lead to a
    fault can be kept: if it leads nowhere, no other one leads farther.
    """
    exchanged = _exchanged(matroid, frame)
    minors = {(0, 0): 1}
    columns = []
    for at in range(len(matroid.ground) - matroid.rank):
        pattern = [exchanged[(1 << row, 1 << at)] for row in range(matroid.rank)]
        column, more = _column_telling(number, pattern, 1 << at, minors, exchanged)
        if column is None:
            return None
        columns.append(column)
        minors.update(more)
    return columns


def _exchanged(matroid, frame):
    """For each mask of rows and each mask of columns whether exchanging them in the frame gives a base."""
    many = len(matroid.ground)
    known = {mask: True for mask in masks_of(matroid.bases, matroid.ground)}
    out, into = images_of(places_in(frame, many)), images_of(places_outside(frame, many))
    return {(rows, columns): (frame ^ out[rows]) | into[columns] in known
            for rows in range(len(out)) for columns in range(len(into))}


def _column_telling(number, pattern, bit, minors, exchanged):
    """The first column with the pattern that tells all bases with it, and the minors with it; or None twice."""
    for column in _columns_like(number, pattern):
        more = _minors_with(column, bit, minors, number)
        if all([(more[key] != 0) == exchanged[key] for key in more]):
            return column, more
    return None, None


def _columns_like(number, pattern):
    """All columns that are 0 just outside the pattern, and 1 in the first place that is not."""
    columns = [()]
    for at, taken in enumerate(pattern):
        if not taken:
            entries = (0,)
        elif True in pattern[:at]:
            entries = tuple(range(1, number))
        else:
            entries = (1,)
        columns = [(*column, entry) for column in columns for entry in entries]
    return columns


def _minors_with(column, bit, minors, number):
    """The minors with a column more, which stands behind the others."""
    more = {}
    for rows, columns in minors:
        for row, entry in enumerate(column):
            if not (rows >> row) & 1:
                # The sign is that of the last column's entry with so many of the rows below it.
                behind = len(places_in(rows >> row, len(column)))
                worth = minors[(rows, columns)] * entry * (-1 if behind & 1 else 1)
                key = (rows | (1 << row), columns | bit)
                more[key] = (more.get(key, 0) + worth) % number
    return more


def _scaled(rows, number, many):
    """The rows with factors for the rows and columns, so that each entry that is taken is 1."""
    # Rows have their own places, columns those behind. Those joined by taken entries have one label.
    labels = list(range(len(rows) + many))
    factors = [1] * len(labels)
    for row, entries in enumerate(rows):
        for column, entry in enumerate(entries, len(rows)):
            if entry != 0 and labels[row] != labels[column]:
                # Modulo 2 and 3 each number but 0 is its own inverse.
                needed = factors[row] * entry * factors[column]
                factors = _multiplied(factors, needed, labels, labels[column], number)
                labels = [labels[row] if label == labels[column] else label for label in labels]
    return [_row_scaled(entries, factor, factors[len(rows):], number) for entries, factor in zip(rows, factors)]


def _multiplied(factors, needed, labels, joined, number):
    """The factors, of which those with one label are multiplied."""
    return [factor * needed % number if label == joined else factor for factor, label in zip(factors, labels)]


def _row_scaled(entries, factor, others, number):
    return [factor * entry * other % number for entry, other in zip(entries, others)]
