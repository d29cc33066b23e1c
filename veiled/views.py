"""Views: tables in which some counts are hidden, with the sums of their rows and columns."""

from veiled.errors import BadPlace, BadView
from veiled.tables import column_sums, is_grid, is_place, is_whole, need_table, row_sums


def _are_cells(thing):
    """Whether the thing is a table but for the None that stands for hidden counts."""
    return is_grid(thing) and all(
        [count is None or is_whole(count, 0) for row in thing for count in row]
    )


def _are_sums(thing, many):
    """Whether the thing is a list of so many sums."""
    if type(thing) != list or len(thing) != many:
        return False
    return all([is_whole(total, 0) for total in thing])


def _has_parts(thing):
    """Whether the thing has the three parts of a view, whatever rests they leave."""
    if type(thing) != tuple or len(thing) != 3:
        return False
    cells, of_rows, of_columns = thing
    if not _are_cells(cells):
        return False
    return _are_sums(of_rows, len(cells)) and _are_sums(of_columns, len(cells[0]))


def _left(lines, sums):
    """What each line's sum leaves when the counts that are shown in it are taken away."""
    return [
        total - sum([count for count in line if count is not None])
        for line, total in zip(lines, sums)
    ]


def _rests(parts):
    """The rests of rows and of columns of the three parts of a view."""
    cells, of_rows, of_columns = parts
    return (_left(cells, of_rows), _left(list(zip(*cells)), of_columns))


def is_view(thing):
    """Whether the thing is a view."""
    if not _has_parts(thing):
        return False
    of_rows, of_columns = _rests(thing)
    return min(of_rows) >= 0 and min(of_columns) >= 0 and sum(of_rows) == sum(of_columns)


def need_view(thing):
    """Refuses what is no view."""
    if not is_view(thing):
        raise BadView("a view is a tuple of the cells, the rows' sums and the columns' sums")


def _are_places(thing, table):
    """Whether the thing is a list of places of the table, each once."""
    if type(thing) != list or not all([is_place(place, table) for place in thing]):
        return False
    return len(set(thing)) == len(thing)


def view_of(table, places):
    """The view of the table in which the places of the list are hidden."""
    need_table(table)
    if not _are_places(places, table):
        raise BadPlace("the places are a list of places of the table, each of them once")
    cells = [
        [None if (at, across) in places else count for across, count in enumerate(row)]
        for at, row in enumerate(table)
    ]
    return (cells, row_sums(table), column_sums(table))


def hidden_places(view):
    """The places of the view that are hidden, in order."""
    need_view(view)
    return [
        (at, across)
        for at, row in enumerate(view[0])
        for across, count in enumerate(row)
        if count is None
    ]


def rests(view):
    """The rests of the view's rows, and those of its columns."""
    need_view(view)
    return _rests(view)


def has_view(table, view):
    """Whether the table has the view."""
    need_table(table)
    need_view(view)
    cells = view[0]
    if len(table) != len(cells) or len(table[0]) != len(cells[0]):
        return False
    return view_of(table, hidden_places(view)) == view
