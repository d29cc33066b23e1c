"""Tables of counts: what they are, their sums, the places of their small counts."""

from veiled.errors import BadNumber, BadTable

MOST = 8


def is_whole(thing, least):
    """Whether the thing is a whole number from the least one on."""
    # The exact kind is asked for, since True and False are integers to Python and no numbers here.
    return type(thing) == int and thing >= least


def is_grid(thing):
    """Whether the thing is a list of 1 to 8 rows, lists of 1 to 8 things, as many in each."""
    if type(thing) != list or not 1 <= len(thing) <= MOST:
        return False
    if any([type(row) != list for row in thing]):
        return False
    many = len(thing[0])
    return 1 <= many <= MOST and all([len(row) == many for row in thing])


def is_table(thing):
    """Whether the thing is a table."""
    return is_grid(thing) and all([is_whole(count, 0) for row in thing for count in row])


def is_place(thing, grid):
    """Whether the thing is a place of the grid, a table or the cells of a view."""
    if type(thing) != tuple or len(thing) != 2:
        return False
    row, column = thing
    if not is_whole(row, 0) or not is_whole(column, 0):
        return False
    return row < len(grid) and column < len(grid[0])


def need_table(thing):
    """Refuses what is no table."""
    if not is_table(thing):
        raise BadTable("a table is a list of 1 to 8 rows of as many whole numbers from 0 on")


def need_number(thing):
    """Refuses what is no bound, or no width."""
    if not is_whole(thing, 1):
        raise BadNumber("a bound, or a width, is a whole number from 1 on")


def row_sums(table):
    """The sums of the table's rows."""
    need_table(table)
    return [sum(row) for row in table]


def column_sums(table):
    """The sums of the table's columns."""
    need_table(table)
    return [sum(column) for column in zip(*table)]


def small_places(table, bound):
    """The places of the counts from 1 to the bound, in order."""
    need_table(table)
    need_number(bound)
    return [
        (at, across)
        for at, row in enumerate(table)
        for across, count in enumerate(row)
        if 1 <= count <= bound
    ]
