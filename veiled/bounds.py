"""The least and the greatest count at a hidden place, and the walls that show them."""

from veiled.errors import BadPlace
from veiled.filling import filled
from veiled.shifting import bared, lowered, parted, raised, reached, veil_of
from veiled.tables import is_place, need_number
from veiled.views import hidden_places, need_view


def _need_hidden(view, place):
    """Refuses what is no view, then what is no hidden place of it."""
    need_view(view)
    cells = view[0]
    if not is_place(place, cells) or cells[place[0]][place[1]] is not None:
        raise BadPlace("the place is a hidden one of the view")


def _ends(table, veil, place):
    """The two tables, from any one that has the view."""
    row, column = place
    low = lowered(table, veil, place, table[row][column])
    high = raised(table, veil, place, sum(table[row]))
    return (low, high)


def _floor(low, veil, place):
    """The low one, of a table with the least count at the place."""
    row, column = place
    number = low[row][column]
    if number == 0:
        return (0, [], [])
    height = len(low)
    # No shift comes to the place's column, so all that it comes to is filled by its own rows.
    before = reached(low, bared(veil, place), row, height + column)
    rows = [line for line in range(height) if line in before]
    columns = [line for line in range(len(low[0])) if height + line in before]
    return (number, rows, columns)


def _ceiling(high, veil, place):
    """The high one, of a table with the greatest count at the place."""
    row, column = place
    height = len(high)
    # No shift comes to the place's row, so all that it does not come to is filled by its own rows.
    before = reached(high, bared(veil, place), height + column, row)
    rows = [line for line in range(height) if line not in before]
    columns = [line for line in range(len(high[0])) if height + line not in before]
    return (high[row][column], rows, columns)


def walls_from(table, veil, place):
    """A low and a high wall of the place, from any table that has the view."""
    low, high = _ends(table, veil, place)
    return (_floor(low, veil, place), _ceiling(high, veil, place))


def is_narrow(pair, place, width):
    """Whether the counts at the place in the pair of tables differ by less than the width."""
    row, column = place
    low, high = pair
    return high[row][column] - low[row][column] < width


def ends(view, place):
    """Two tables that have the view, with the least and with the greatest count at the place."""
    _need_hidden(view, place)
    return _ends(filled(view), veil_of(view[0]), place)


def walls(view, place):
    """A low and a high wall of the place, whose numbers are the least and the greatest count."""
    _need_hidden(view, place)
    return walls_from(filled(view), veil_of(view[0]), place)


def given_away(view, width):
    """The hidden places whose counts are given away for the width, in order."""
    need_view(view)
    need_number(width)
    table = filled(view)
    veil = veil_of(view[0])
    return [
        place
        for place in hidden_places(view)
        if is_narrow(parted(table, veil, place, width), place, width)
    ]
