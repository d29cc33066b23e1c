"""Filling a view: finding a table that has it."""

from veiled.errors import NoTable
from veiled.shifting import bared, raised, reached, veil_of
from veiled.views import need_view, rests


def filled(view):
    """A table that has the view."""
    need_view(view)
    cells = view[0]
    height, width = len(cells), len(cells[0])
    of_rows, of_columns = rests(view)
    # One more row and column hold at first all that the hidden counts are to come to. What is left
    # there when the corner between them has got as much as can be is what no hidden count can take.
    corner = (height, width)
    counts = [[0] * width + [rest] for rest in of_rows] + [of_columns + [0]]
    veil = [row + [True] for row in veil_of(cells)] + [[True] * (width + 1)]
    counts = raised(counts, veil, corner, sum(of_rows))
    if counts[height][width] < sum(of_rows):
        _refuse(counts, veil, corner)
    return [
        [found if count is None else count for found, count in zip(line, row)]
        for line, row in zip(counts, cells)
    ]


def _refuse(counts, veil, corner):
    """Refuses with the rows and columns that no more can be taken from: they show why."""
    height, width = corner
    behind = height + 1
    before = reached(counts, bared(veil, corner), behind + width, height)
    rows = [row for row in range(height) if row in before]
    columns = [column for column in range(width) if behind + column in before]
    raise NoTable(rows, columns)
