"""Reading a paper: whether it hides the small counts of a table safely, and no others in vain."""

from veiled.tables import is_place, is_table, is_whole, need_number, small_places
from veiled.views import has_view, hidden_places, rests, view_of


def _is_tuple(thing, many):
    """Whether the thing is a tuple of so many."""
    return type(thing) == tuple and len(thing) == many


def _is_rising(things):
    """Whether each is greater than the one before it."""
    return all([one < other for one, other in zip(things, things[1:])])


def _are_places(thing, table):
    """Whether the thing is a list of places of the table, in order and each once."""
    if type(thing) != list or not all([is_place(place, table) for place in thing]):
        return False
    return _is_rising(thing)


def _are_lines(thing, many):
    """Whether the thing is a list of numbers of rows, or of columns, rising and each once."""
    if type(thing) != list or not all([is_whole(line, 0) and line < many for line in thing]):
        return False
    return _is_rising(thing)


def _bears(wall, left, place):
    """Whether the thing is a wall but for what it keeps apart: its kinds, its lines, its number."""
    if not _is_tuple(wall, 3):
        return False
    number, rows, columns = wall
    of_rows, of_columns = left
    if not _are_lines(rows, len(of_rows)) or not _are_lines(columns, len(of_columns)):
        return False
    if place[0] not in rows or place[1] in columns:
        return False
    total = sum([of_rows[row] for row in rows]) - sum([of_columns[column] for column in columns])
    return type(number) == int and number == total


def _is_nought(wall):
    """Whether the thing is the wall that tells of each place that its count is not below nought."""
    if not _is_tuple(wall, 3) or type(wall[0]) != int:
        return False
    return wall[0] == 0 and wall[1] == [] and wall[2] == []


def _is_low(wall, hidden, left, place):
    """Whether the thing is a low wall of the place, where these are hidden and leave these rests."""
    if _is_nought(wall):
        return True
    if not _bears(wall, left, place):
        return False
    _, rows, columns = wall
    beside = [other for other in hidden if other != place]
    return all([column in columns for row, column in beside if row in rows])


def _is_high(wall, hidden, left, place):
    """Whether the thing is a high wall of the place, where these are hidden and leave these rests."""
    if not _bears(wall, left, place):
        return False
    _, rows, columns = wall
    return all([row in rows for row, column in hidden if column in columns])


def _is_step(step, table, hidden, width):
    """Whether the thing is a step of a road that has come to just these hidden places."""
    if not _is_tuple(step, 3):
        return False
    place, low, high = step
    if not is_place(place, table) or place not in hidden:
        return False
    left = rests(view_of(table, hidden))
    if not _is_low(low, hidden, left, place) or not _is_high(high, hidden, left, place):
        return False
    return high[0] - low[0] < width


def _is_road(road, table, first, hidden, width):
    """Whether the thing is a road from the hidden places."""
    if type(road) != list or not road:
        return False
    left = hidden
    for at, step in enumerate(road):
        if not _is_step(step, table, left, width):
            return False
        place = step[0]
        if (place in first) != (at == len(road) - 1):
            return False
        left = [other for other in left if other != place]
    return True


def _is_pair(pair, place, view, width):
    """Whether the thing is the place with two tables that show that it is not given away."""
    if not _is_tuple(pair, 3):
        return False
    told, one, other = pair
    if not is_place(told, view[0]) or told != place:
        return False
    if not is_table(one) or not is_table(other):
        return False
    if not has_view(one, view) or not has_view(other, view):
        return False
    row, column = place
    return abs(one[row][column] - other[row][column]) >= width


def _has_road(thing, place, table, first, hidden, width):
    """Whether the thing is the place, one of others, with a road from all hidden ones but it."""
    if not _is_tuple(thing, 2):
        return False
    told, road = thing
    if not is_place(told, table) or told != place:
        return False
    return _is_road(road, table, first, [other for other in hidden if other != place], width)


def _are_pairs(pairs, view, width):
    """Whether the thing is a list of one pair for each hidden place, in order."""
    hidden = hidden_places(view)
    if type(pairs) != list or len(pairs) != len(hidden):
        return False
    return all([_is_pair(pair, place, view, width) for pair, place in zip(pairs, hidden)])


def holds(table, bound, width, paper):
    """Whether the thing is a paper for the table, the bound and the width."""
    small = small_places(table, bound)
    need_number(width)
    if not _is_tuple(paper, 4):
        return False
    first, others, pairs, roads = paper
    if not _are_places(first, table) or first != small:
        return False
    if not _are_places(others, table) or any([place in small for place in others]):
        return False
    hidden = sorted(small + others)
    if not _are_pairs(pairs, view_of(table, hidden), width):
        return False
    if type(roads) != list or len(roads) != len(others):
        return False
    return all(
        [
            _has_road(road, place, table, small, hidden, width)
            for road, place in zip(roads, others)
        ]
    )
