"""Points 3 to 11 told once more, without the program's code: what the answers are held against."""

from itertools import product

LOW_NOUGHT = (0, [], [])


def places_of(grid):
    return [(at, across) for at in range(len(grid)) for across in range(len(grid[0]))]


def is_number(thing, least):
    return type(thing) is int and thing >= least


def is_rising(things):
    return all(things[at] < things[at + 1] for at in range(len(things) - 1))


def veiled(table, places):
    """The view of the table in which the places are hidden."""
    cells = [list(row) for row in table]
    for at, across in places:
        cells[at][across] = None
    columns = [sum(row[across] for row in table) for across in range(len(table[0]))]
    return (cells, [sum(row) for row in table], columns)


def hidden_in(view):
    return [(at, across) for at, across in places_of(view[0]) if view[0][at][across] is None]


def left_in(view):
    """The rests of the rows and of the columns."""
    cells, rows, columns = view
    rows, columns = list(rows), list(columns)
    for at, across in places_of(cells):
        if cells[at][across] is not None:
            rows[at] -= cells[at][across]
            columns[across] -= cells[at][across]
    return rows, columns


def is_table_of(thing, view):
    """Whether the thing is a table that has the view."""
    cells, rows, columns = view
    if type(thing) is not list or len(thing) != len(cells):
        return False
    for row in thing:
        if type(row) is not list or len(row) != len(cells[0]):
            return False
        if not all(is_number(count, 0) for count in row):
            return False
    for at, across in places_of(cells):
        if cells[at][across] not in (None, thing[at][across]):
            return False
    return [sum(row) for row in thing] == rows and [sum(line) for line in zip(*thing)] == columns


def tables_of(view):
    """Every table that has the view."""
    hidden = hidden_in(view)
    rows, columns = left_in(view)
    table = [list(row) for row in view[0]]
    found = []
    ahead_in_row = [any(at == row for at, _ in hidden[k + 1:]) for k, (row, _) in enumerate(hidden)]

    def fill(k):
        if k == len(hidden):
            if not any(rows) and not any(columns):
                found.append([list(row) for row in table])
            return
        at, across = hidden[k]
        most = min(rows[at], columns[across])
        # What is left in a row is for its last hidden place.
        least = 0 if ahead_in_row[k] else rows[at]
        for count in range(least, most + 1):
            table[at][across] = count
            rows[at] -= count
            columns[across] -= count
            fill(k + 1)
            rows[at] += count
            columns[across] += count

    fill(0)
    return found


def is_proof(rows, columns, view):
    """Whether the rows and columns show that no table has the view (point 5)."""
    cells = view[0]
    if not are_lines(rows, len(cells)) or not are_lines(columns, len(cells[0])):
        return False
    if any(at in rows and across not in columns for at, across in hidden_in(view)):
        return False
    return reckoned(rows, columns, view) > 0


def are_lines(thing, many):
    if type(thing) is not list:
        return False
    return all(is_number(line, 0) and line < many for line in thing) and is_rising(thing)


def reckoned(rows, columns, view):
    of_rows, of_columns = left_in(view)
    return sum(of_rows[at] for at in rows) - sum(of_columns[across] for across in columns)


def is_wall(wall, view, place):
    """What point 6 says of low and high walls alike."""
    if type(wall) is not tuple or len(wall) != 3 or type(wall[0]) is not int:
        return False
    number, rows, columns = wall
    if not are_lines(rows, len(view[0])) or not are_lines(columns, len(view[0][0])):
        return False
    if place[0] not in rows or place[1] in columns:
        return False
    return number == reckoned(rows, columns, view)


def is_high(wall, view, place):
    if not is_wall(wall, view, place):
        return False
    return not any(at not in wall[1] and across in wall[2] for at, across in hidden_in(view))


def is_low(wall, view, place):
    if type(wall) is tuple and len(wall) == 3 and type(wall[0]) is int:
        if type(wall[1]) is list and type(wall[2]) is list and wall == LOW_NOUGHT:
            return True
    if not is_wall(wall, view, place):
        return False
    beside = [other for other in hidden_in(view) if other != place]
    return not any(at in wall[1] and across not in wall[2] for at, across in beside)


def subsets(many):
    """Every rising list of numbers below."""
    return [[k for k in range(many) if chosen[k]] for chosen in product((False, True), repeat=many)]


def walls_around(view, place, kind):
    """Every wall of the place, low ones or high ones (is_low, is_high)."""
    found = [LOW_NOUGHT] if kind is is_low else []
    for rows in subsets(len(view[0])):
        for columns in subsets(len(view[0][0])):
            wall = (reckoned(rows, columns, view), rows, columns)
            if wall != LOW_NOUGHT and kind(wall, view, place):
                found.append(wall)
    return found


def smalls(table, bound):
    return [(at, across) for at, across in places_of(table) if 1 <= table[at][across] <= bound]


def is_spot(thing, table):
    """Whether the thing is a place of the table."""
    if type(thing) is not tuple or len(thing) != 2 or not all(is_number(k, 0) for k in thing):
        return False
    return thing[0] < len(table) and thing[1] < len(table[0])


def is_road(road, table, bound, width, places):
    """Whether the thing is a road from the places (point 9)."""
    if type(road) is not list or not road:
        return False
    hidden = list(places)
    for step in road:
        if type(step) is not tuple or len(step) != 3:
            return False
        place, low, high = step
        if not is_spot(place, table) or place not in hidden:
            return False
        view = veiled(table, hidden)
        if not is_low(low, view, place) or not is_high(high, view, place):
            return False
        if high[0] - low[0] >= width:
            return False
        hidden.remove(place)
    small = [step[0] in smalls(table, bound) for step in road]
    return small[-1] and not any(small[:-1])


def are_spots(thing, table):
    if type(thing) is not list or not all(is_spot(place, table) for place in thing):
        return False
    return is_rising(thing)


def is_named(thing, many, place, table):
    """Whether the thing is a tuple of so many with the place in front."""
    if type(thing) is not tuple or len(thing) != many:
        return False
    return is_spot(thing[0], table) and thing[0] == place


def is_paper(paper, table, bound, width):
    """Whether the thing is a paper of point 10."""
    if type(paper) is not tuple or len(paper) != 4 or any(type(part) is not list for part in paper):
        return False
    first, others, pairs, roads = paper
    if not are_spots(first, table) or not are_spots(others, table):
        return False
    if first != smalls(table, bound) or any(place in first for place in others):
        return False
    hidden = sorted(first + others)
    if len(pairs) != len(hidden) or len(roads) != len(others):
        return False
    view = veiled(table, hidden)
    for place, pair in zip(hidden, pairs):
        if not is_named(pair, 3, place, table):
            return False
        if not is_table_of(pair[1], view) or not is_table_of(pair[2], view):
            return False
        at, across = place
        if abs(pair[1][at][across] - pair[2][at][across]) < width:
            return False
    for place, told in zip(others, roads):
        if not is_named(told, 2, place, table):
            return False
        if not is_road(told[1], table, bound, width, [other for other in hidden if other != place]):
            return False
    return True


class Choices:
    """Every choice of hidden places of a small table, and how narrowly each lets itself be told.

    A choice is a number with one bit for each place, in order.
    """

    def __init__(self, table):
        self.table = table
        self.places = places_of(table)
        self.tables = tables_of(veiled(table, self.places))
        self.marked = [self.differs(other) for other in self.tables]
        self.many = 1 << len(self.places)
        self.low = [[table[at][across] for at, across in self.places] for _ in range(self.many)]
        self.high = [list(row) for row in self.low]
        for other, mark in zip(self.tables, self.marked):
            self.widen(mark, [other[at][across] for at, across in self.places])
        # What a choice allows each greater one allows, too.
        for k in range(len(self.places)):
            for choice in range(self.many):
                if choice >> k & 1:
                    self.widen(choice, self.low[choice ^ 1 << k])
                    self.widen(choice, self.high[choice ^ 1 << k])
        self.narrowest = [self.least_width(choice) for choice in range(self.many)]

    def differs(self, other):
        """The choice of the places at which the tables differ."""
        alike = [self.table[at][across] == other[at][across] for at, across in self.places]
        return sum(1 << k for k, same in enumerate(alike) if not same)

    def widen(self, choice, counts):
        self.low[choice] = list(map(min, self.low[choice], counts))
        self.high[choice] = list(map(max, self.high[choice], counts))

    def least_width(self, choice):
        """High less low at the place of the choice where it is least; None for no place."""
        spans = [high - low for low, high in zip(self.low[choice], self.high[choice])]
        return min([span for k, span in enumerate(spans) if choice >> k & 1], default=None)

    def is_safe(self, choice, width):
        return choice == 0 or self.narrowest[choice] >= width

    def choice_of(self, places):
        return sum(1 << k for k, place in enumerate(self.places) if place in places)

    def places_in(self, choice):
        return [place for k, place in enumerate(self.places) if choice >> k & 1]

    def safe_ones(self, bound, width):
        """The choices of all small counts and others that are safe together."""
        small = self.choice_of(smalls(self.table, bound))
        fit = [choice for choice in range(self.many) if choice & small == small]
        return [choice for choice in fit if self.is_safe(choice, width)]

    def least_ones(self, bound, width):
        """The safe choices none of whose parts is one."""
        safe = self.safe_ones(bound, width)
        return [one for one in safe if not any(other != one and other & one == other for other in safe)]

    def pair_at(self, choice, place):
        """Two tables of the choice's view, with the least and with the greatest count there."""
        at, across = place
        fit = [other for other, mark in zip(self.tables, self.marked) if mark & choice == mark]
        fit = sorted(fit, key=lambda other: other[at][across])
        return [list(row) for row in fit[0]], [list(row) for row in fit[-1]]


def some_step(table, hidden, width, rng, skipped):
    """A step by which one of the hidden places is shown, any one but the skipped; None if none is."""
    view = veiled(table, hidden)
    for place in rng.sample(hidden, len(hidden)):
        lows, highs = walls_around(view, place, is_low), walls_around(view, place, is_high)
        fit = [(low, high) for low in lows for high in highs if high[0] - low[0] < width]
        if fit and place not in skipped:
            low, high = rng.choice(fit)
            return place, fresh(low), fresh(high)
    return None


def fresh(wall):
    return wall[0], list(wall[1]), list(wall[2])


def some_road(table, bound, width, places, rng):
    """A road from the places, found by trying all walls; None where there is none."""
    hidden, road, small = list(places), [], smalls(table, bound)
    skipped = list(small)
    while True:
        step = some_step(table, hidden, width, rng, skipped)
        if step is None and skipped:
            # No other one is given away: a small one now.
            skipped = []
            continue
        if step is None:
            return None
        road.append(step)
        if step[0] in small:
            return road
        hidden.remove(step[0])
        skipped = small if rng.random() < 0.7 else []


def some_paper(choices, choice, bound, width, rng):
    """A paper with just this least choice, found by trying all."""
    table = choices.table
    hidden = choices.places_in(choice)
    first = smalls(table, bound)
    others = [place for place in hidden if place not in first]
    pairs, roads = [], []
    for place in hidden:
        one, other = choices.pair_at(choice, place)
        pairs.append((place, one, other) if rng.random() < 0.5 else (place, other, one))
    for place in others:
        left = [other for other in hidden if other != place]
        roads.append((place, some_road(table, bound, width, left, rng)))
    return first, others, pairs, roads
