"""Shifting counts about under a veil, so that all sums stay as they are.

A veil is a list of rows of True, where a count is hidden, and False. A line is a row or a column, by
its number among all of them: the rows come first, the columns behind them. A shift goes from line to
line. Where it comes to a column, there is one too many in it, which a hidden count in it loses; then
there is one too few in that count's row, which a hidden count in that row gains; and so on.
"""


def veil_of(cells):
    """The veil that hides what is hidden in the cells of a view."""
    return [[count is None for count in row] for row in cells]


def bared(veil, place):
    """The veil without the one place."""
    row, column = place
    told = [list(line) for line in veil]
    told[row][column] = False
    return told


def _lines_beside(counts, veil, line):
    """The lines that a shift can go to from the line."""
    height = len(counts)
    if line < height:
        return [height + column for column, hidden in enumerate(veil[line]) if hidden]
    column = line - height
    return [row for row in range(height) if veil[row][column] and counts[row][column] > 0]


def reached(counts, veil, start, goal):
    """The lines that shifts from the start come to, until the goal: each with the line before it."""
    before = {start: None}
    lines = [start]
    at = 0
    # The nearest lines first: else the number of shifts would grow with the counts.
    while at < len(lines) and goal not in before:
        line = lines[at]
        at += 1
        for beside in _lines_beside(counts, veil, line):
            if beside not in before:
                before[beside] = line
                lines.append(beside)
    return before


def _way(before, goal, height):
    """The places that gain and those that lose in the shift that comes to the goal."""
    gains = []
    losses = []
    line = goal
    while before[line] is not None:
        come = before[line]
        if come < height:
            gains.append((come, line - height))
        else:
            losses.append((line, come - height))
        line = come
    return (gains, losses)


def _shift(counts, way, most):
    """Shifts as many as can be, so many at most, and tells how many."""
    gains, losses = way
    many = min([most] + [counts[row][column] for row, column in losses])
    for row, column in gains:
        counts[row][column] += many
    for row, column in losses:
        counts[row][column] -= many
    return many


def _shift_all(counts, veil, start, goal, most):
    """Shifts from the start to the goal as many as can be, so many at most, and tells how many."""
    total = 0
    while total < most:
        before = reached(counts, veil, start, goal)
        if goal not in before:
            return total
        total += _shift(counts, _way(before, goal, len(counts)), most - total)
    return total


def raised(counts, veil, place, most):
    """New counts, the one at the hidden place as great as can be, greater by so many at most."""
    row, column = place
    told = [list(line) for line in counts]
    many = _shift_all(told, bared(veil, place), len(counts) + column, row, most)
    told[row][column] += many
    return told


def lowered(counts, veil, place, most):
    """New counts, the one at the hidden place as small as can be, smaller by so many at most."""
    row, column = place
    told = [list(line) for line in counts]
    start, goal = row, len(counts) + column
    many = _shift_all(told, bared(veil, place), start, goal, min(most, counts[row][column]))
    told[row][column] -= many
    return told


def parted(counts, veil, place, width):
    """Two new counts, whose difference at the hidden place is the width, or else as great as can be."""
    row, column = place
    high = raised(counts, veil, place, width)
    low = lowered(counts, veil, place, width - (high[row][column] - counts[row][column]))
    return (low, high)
