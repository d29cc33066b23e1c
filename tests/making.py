"""Views and tables of every make that several tests ask about."""

import random

from tests.checking import left_in, places_of, veiled
from tests.helping import HUGE, VAST

EIGHT = [[(5 * at + 3 * across) % 11 for across in range(8)] for at in range(8)]


def all_hidden(of_rows, of_columns):
    return [[None] * len(of_columns) for _ in of_rows], list(of_rows), list(of_columns)


def square():
    """Each hidden count is from 0 to 3, and one tells the three others."""
    return all_hidden([3, 3], [3, 3])


def turned(view):
    """The view with rows for columns."""
    cells, of_rows, of_columns = view
    return [list(line) for line in zip(*cells)], list(of_columns), list(of_rows)


def made(rng, height, width, most, share):
    """The view of a random table in which about that share of the places is hidden."""
    table = [[rng.randint(0, most) for _ in range(width)] for _ in range(height)]
    return veiled(table, [place for place in places_of(table) if rng.random() < share])


def with_left(cells, left_rows, left_columns):
    """The view of the cells with these rests."""
    rows = [left + sum(count or 0 for count in row) for left, row in zip(left_rows, cells)]
    columns = [left + sum(count or 0 for count in line) for left, line in zip(left_columns, zip(*cells))]
    return [list(row) for row in cells], rows, columns


def ladder(size, weak=None):
    """Twos hidden on the diagonal and right of it, a one on the weak rung; fours are shown."""
    table = [[2 if across in (at, at + 1) else 4 for across in range(size)] for at in range(size)]
    if weak is not None:
        table[weak][weak] = 1
    return veiled(table, [(at, across) for at, across in places_of(table) if across in (at, at + 1)])


def overladen(size, weak):
    """A ladder that would carry two more from the first row to the last column but for a weak rung."""
    cells, of_rows, of_columns = ladder(size, weak)
    of_rows[0] += 2
    of_columns[-1] += 2
    return cells, of_rows, of_columns


def two_blocks(size, half, more):
    """Two blocks of hidden places, with so many more in the rows of one, the columns of the other."""
    cells = [[None if (at < half) == (across < half) else 1 for across in range(size)] for at in range(size)]
    part = [size - half] * half + [half] * (size - half)
    left_rows = [left * (more + 2) for left in part]
    # In each block the rows' rests come to as many as the columns'.
    left_columns = list(left_rows)
    left_rows[0] += more
    left_columns[-1] += more
    return with_left(cells, left_rows, left_columns)


def solvable():
    """Views that some table has."""
    rng = random.Random(11)
    found = [
        ([[None]], [0], [0]), ([[None]], [7], [7]), ([[None]], [VAST], [VAST]), ([[4]], [4], [4]),
        ([[0]], [0], [0]), ([[1, 2], [3, 4]], [3, 7], [4, 6]), ([[None, 2]], [5], [3, 2]),
        ([[None, None, None]], [HUGE], [0, 1, HUGE - 1]), ([[None] * 8], [28], list(range(8))),
        ([[None] for _ in range(8)], [VAST] * 8, [8 * VAST]), square(), ladder(8), ladder(3),
        veiled(EIGHT, places_of(EIGHT)[::2]), all_hidden([VAST, HUGE, 0], [1, VAST, HUGE - 1]),
        veiled(EIGHT, places_of(EIGHT)), veiled(EIGHT, []), all_hidden([0] * 8, [0] * 8),
        veiled(EIGHT, [place for place in places_of(EIGHT) if place[0] != 3 and place[1] not in (2, 5)]),
        all_hidden([VAST] * 8, [VAST] * 8), all_hidden([8 * VAST] + [0] * 7, [VAST] * 8),
        two_blocks(8, 3, 0), overladen(8, None), overladen(5, 4),
    ]
    for most in (1, 3, 9, 40, HUGE, VAST):
        for share in (0.2, 0.5, 0.8, 1):
            found.append(made(rng, rng.randint(1, 8), rng.randint(1, 8), most, share))
        found.append(made(rng, 8, 8, most, rng.choice((0.3, 0.6, 1))))
    return found + [turned(view) for view in found[:15]]


def hopeless():
    """Views that no table has."""
    found = [
        # A row, or a column, without a hidden place that has a rest.
        ([[1, 2], [None, None]], [4, 0], [2, 2]),
        ([[0]], [1], [1]),
        ([[5]], [VAST + 5], [VAST + 5]),
        ([[1, None], [1, None]], [1, 3], [3, 1]),
        ([[0, 0], [None, None]], [2, 1], [2, 1]),
        ([[None] * 8 for _ in range(7)] + [[0] * 8], [0] * 7 + [8], [1] * 8),
        # A row with more than its columns have, a column with more than its rows have.
        ([[None, 0], [None, None]], [3, 1], [2, 2]),
        ([[None, None], [0, None]], [2, 2], [3, 1]),
        ([[None, None], [None, 0]], [VAST - 1, HUGE], [HUGE - 1, VAST]),
        # Several rows and columns together, none alone.
        two_blocks(4, 2, 1), two_blocks(5, 2, 1), two_blocks(8, 4, 1), two_blocks(8, 3, VAST),
        two_blocks(8, 5, HUGE), overladen(8, 4), overladen(8, 1), overladen(8, 6), overladen(5, 2),
    ]
    return found + [turned(view) for view in found]


def moved(rng, view):
    """The view with something moved from one row's sum to another's, as far as it stays a view."""
    cells, of_rows, of_columns = view
    one, other = rng.sample(range(len(of_rows)), 2)
    more = min(rng.choice((1, 2, 5)), left_in(view)[0][other])
    of_rows = list(of_rows)
    of_rows[one] += more
    of_rows[other] -= more
    return cells, of_rows, of_columns


def unsettled():
    """Views of tables with their sums moved about: some table has them, or none."""
    rng = random.Random(12)
    found = []
    for _ in range(80):
        most, share = rng.choice((3, 9, HUGE)), rng.choice((0.25, 0.4, 0.6))
        view = moved(rng, made(rng, rng.randint(2, 8), rng.randint(2, 8), most, share))
        found.append(view if rng.random() < 0.5 else turned(view))
    return found
