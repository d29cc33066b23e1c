"""Small views held against every table that has them (points 4 to 7)."""

import random
from itertools import product

from tests import checking
from tests.judging import Judge


def shares(total, many):
    """Every way in which so many rests come to the total."""
    if many == 1:
        return [[total]]
    return [[first] + more for first in range(total + 1) for more in shares(total - first, many - 1)]


def patterns(height, width):
    """Every choice of hidden places, as cells with None and nought."""
    for flat in product((None, 0), repeat=height * width):
        yield [list(flat[at * width:(at + 1) * width]) for at in range(height)]


def with_rests(cells, of_rows, of_columns, rng):
    """A view with these rests, and some counts to 4 where the cells show one."""
    shown = [[None if count is None else rng.randint(0, 4) for count in row] for row in cells]
    rows = [rest + sum(count or 0 for count in row) for rest, row in zip(of_rows, shown)]
    columns = [rest + sum(count or 0 for count in line) for rest, line in zip(of_columns, zip(*shown))]
    return shown, rows, columns


class SmallViews(Judge):
    def tried(self, view):
        """Every answer about the view is the one that all its tables together give."""
        tables = checking.tables_of(view)
        found = self.spans(view)
        if not tables:
            self.assertIsNone(found, view)
            for width in range(1, 7):
                self.assertIsNone(self.away(view, width))
            return
        self.assertIsNotNone(found, view)
        self.assertEqual(list(found), checking.hidden_in(view))
        for (at, across), span in found.items():
            counts = [table[at][across] for table in tables]
            self.assertEqual(span, (min(counts), max(counts)), (view, at, across))
        for width in range(1, 7):
            narrow = [place for place, (low, high) in found.items() if high - low < width]
            self.assertEqual(self.away(view, width), narrow, (view, width))

    def all_shares(self, height, width, most):
        rng = random.Random(height * 10 + width)
        for cells in patterns(height, width):
            for total in range(most + 1):
                for of_rows, of_columns in product(shares(total, height), shares(total, width)):
                    self.tried(with_rests(cells, of_rows, of_columns, rng))

    def some_shares(self, height, width, each):
        """Some views for each choice of hidden places: rests shared out anew, and those of tables."""
        rng = random.Random(height * 100 + width)
        for cells in patterns(height, width):
            for total in list(range(10)) + [rng.randint(10, 18)]:
                for _ in range(each):
                    of_rows = rng.choice(shares(total, height))
                    of_columns = rng.choice(shares(total, width))
                    self.tried(with_rests(cells, of_rows, of_columns, rng))
            for _ in range(4 * each):
                table = [[rng.randint(0, 4) for _ in row] for row in cells]
                self.tried(checking.veiled(table, checking.hidden_in((cells, [], []))))

    def test_one_count(self):
        self.all_shares(1, 1, 9)

    def test_one_row(self):
        self.all_shares(1, 2, 9)
        self.all_shares(1, 3, 6)

    def test_one_column(self):
        self.all_shares(2, 1, 9)
        self.all_shares(3, 1, 6)

    def test_two_by_two(self):
        self.all_shares(2, 2, 4)
        self.some_shares(2, 2, 8)

    def test_two_rows_of_three(self):
        self.all_shares(2, 3, 1)
        self.some_shares(2, 3, 1)

    def test_three_rows_of_two(self):
        self.all_shares(3, 2, 1)
        self.some_shares(3, 2, 1)

    def test_views_of_every_small_table_with_two_rows(self):
        rng = random.Random(7)
        for flat in product(range(5), repeat=4):
            table = [list(flat[:2]), list(flat[2:])]
            places = [place for place in checking.places_of(table) if rng.random() < 0.8]
            self.tried(checking.veiled(table, places))
