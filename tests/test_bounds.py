"""The least and the greatest count at a hidden place, and what is given away (points 6 and 7)."""

import copy
import random

from tests import checking, making
from tests.helping import HUGE, STRANGE, VAST, no_numbers, spoil
from tests.judging import Judge
from tests.test_views import no_views
from veiled.bounds import ends, given_away, walls
from veiled.errors import BadNumber, BadPlace, BadView, NoTable

# The first row has a rest and no hidden place: no table has it.
FULL_ROW = ([[1, 2], [None, None]], [4, 0], [2, 2])

NO_PLACES = STRANGE + [
    5, "00", (), (0,), (0, 0, 0), (0, 0, None), ((0, 0),), [0, 0], [], [(0, 0)], {0: 0}, {(0, 0): 1},
    (True, 0), (0, True), (False, False), (True, True), (False, 0), (0, False), (0.0, 0), (0, 0.0),
    (None, 0), (0, None), ("0", "0"), ("0", 0), ([], 0), (0, [0]), ({}, 0), ((0,), 0), (0, (0,)),
    (-1, 0), (0, -1), (-2, 0), (0, -2), (-1, -1), (-VAST, 0), (8, 0), (0, 8), (VAST, 0), (0, VAST),
]


class Spans(Judge):
    def test_every_answer_about_each_view(self):
        for view in making.solvable():
            found = self.spans(view)
            self.assertIsNotNone(found, view)
            for low, high in found.values():
                self.assertTrue(0 <= low <= high)

    def test_views_that_no_table_has(self):
        for view in making.hopeless() + making.unsettled():
            self.spans(view)

    def test_a_square(self):
        for place in ((0, 0), (0, 1), (1, 0), (1, 1)):
            self.assertEqual(self.span(making.square(), place), (0, 3))
        low, high = ends(making.square(), (0, 1))
        self.assertEqual((low, high), ([[3, 0], [0, 3]], [[0, 3], [3, 0]]))
        low, high = ends(making.square(), (1, 1))
        self.assertEqual((low, high), ([[0, 3], [3, 0]], [[3, 0], [0, 3]]))

    def test_one_hidden_place_is_told_wholly(self):
        for count in (0, 1, 7, VAST):
            view = checking.veiled([[3, count], [2, 8]], [(0, 1)])
            self.assertEqual(self.span(view, (0, 1)), (count, count))
            self.assertEqual(ends(view, (0, 1)), ([[3, count], [2, 8]], [[3, count], [2, 8]]))

    def test_least_counts_above_nought(self):
        view = making.all_hidden([5, 2], [4, 3])
        self.assertEqual(self.span(view, (0, 0)), (2, 4))
        self.assertEqual(self.span(view, (0, 1)), (1, 3))
        self.assertEqual(self.span(view, (1, 0)), (0, 2))
        self.assertEqual(self.span(view, (1, 1)), (0, 2))
        self.assertEqual(walls(view, (0, 0)), ((2, [0], [1]), (4, [0, 1], [1])))

    def test_several_rows_and_columns_together(self):
        # Each of the two blocks is full, so the one place between them is told: it is nought.
        view = making.two_blocks(8, 3, 0)
        view[0][0][7] = None
        view[1][0] -= 1
        view[2][7] -= 1
        self.assertEqual(self.span(view, (0, 7)), (0, 0))
        view[1][0] += 1
        view[2][7] += 1
        self.assertEqual(self.span(view, (0, 7)), (1, 1))
        self.assertEqual(walls(view, (0, 7)), ((1, [0, 1, 2], [0, 1, 2]), (1, [0, 1, 2], [0, 1, 2])))

    def test_a_ladder_is_told_wholly(self):
        for size in range(1, 9):
            view = making.ladder(size)
            found = self.spans(view)
            self.assertEqual(set(found.values()), {(2, 2)})
            self.assertEqual(given_away(view, 1), checking.hidden_in(view))

    def test_one_row_and_one_column(self):
        row = ([[None, 4, None, None]], [VAST + 9], [VAST, 4, 0, 5])
        for view in (row, making.turned(row)):
            self.assertEqual(list(self.spans(view).values()), [(VAST, VAST), (0, 0), (5, 5)])
            self.assertEqual(given_away(view, 1), checking.hidden_in(view))

    def test_no_hidden_place(self):
        for table in ([[0]], [[5]], [[1, 2], [3, 4]], making.EIGHT):
            for width in (1, 5, VAST):
                self.assertEqual(given_away(checking.veiled(table, []), width), [])

    def test_all_places_of_eight_by_eight(self):
        view = making.all_hidden([8 * VAST] * 8, [8 * VAST] * 8)
        found = self.spans(view)
        self.assertEqual(len(found), 64)
        self.assertEqual(set(found.values()), {(0, 8 * VAST)})
        self.assertEqual(given_away(view, 8 * VAST), [])
        self.assertEqual(given_away(view, 8 * VAST + 1), list(found))

    def test_huge_counts_to_the_last_digit(self):
        view = making.all_hidden([VAST, HUGE], [VAST - 1, HUGE + 1])
        self.assertEqual(self.span(view, (0, 0)), (VAST - 1 - HUGE, VAST - 1))
        self.assertEqual(self.span(view, (1, 1)), (0, HUGE))
        self.assertEqual(given_away(view, HUGE), [])
        self.assertEqual(given_away(view, HUGE + 1), checking.hidden_in(view))

    def test_what_else_is_shown_does_not_matter(self):
        rng = random.Random(3)
        for _ in range(20):
            view = making.made(rng, 4, 5, 6, 0.6)
            told = self.spans(view)
            cells, of_rows, of_columns = copy.deepcopy(view)
            for at, across in checking.places_of(cells):
                if cells[at][across] is not None:
                    cells[at][across] += HUGE
                    of_rows[at] += HUGE
                    of_columns[across] += HUGE
            self.assertEqual(self.spans((cells, of_rows, of_columns)), told)


class GivenAway(Judge):
    def test_the_width_as_great_as_the_span_one_less_one_more(self):
        view = making.square()
        self.assertEqual(given_away(view, 1), [])
        self.assertEqual(given_away(view, 2), [])
        self.assertEqual(given_away(view, 3), [])
        self.assertEqual(given_away(view, 4), [(0, 0), (0, 1), (1, 0), (1, 1)])
        self.assertEqual(given_away(view, VAST), [(0, 0), (0, 1), (1, 0), (1, 1)])

    def test_some_of_the_hidden_places(self):
        cells = [[None, None, 1, None], [None, None, 1, 1], [2, 2, 2, None]]
        view = (cells, [8, 5, 9], [6, 7, 4, 5])
        self.assertEqual(self.spans(view), {
            (0, 0): (1, 4), (0, 1): (2, 5), (0, 3): (1, 1), (1, 0): (0, 3), (1, 1): (0, 3), (2, 3): (3, 3),
        })
        self.assertEqual(given_away(view, 3), [(0, 3), (2, 3)])
        self.assertEqual(given_away(view, 1), [(0, 3), (2, 3)])
        self.assertEqual(given_away(view, 4), checking.hidden_in(view))

    def test_it_is_a_list_of_tuples_of_whole_numbers(self):
        found = given_away(making.ladder(3), 1)
        self.assertIs(type(found), list)
        for place in found:
            self.assertIs(type(place), tuple)
            self.assertEqual([type(number) for number in place], [int, int])


class Refusals(Judge):
    def test_what_is_no_view(self):
        for thing in no_views():
            self.refuses(BadView, ends, thing, (0, 0))
            self.refuses(BadView, walls, thing, (0, 0))
            self.refuses(BadView, given_away, thing, 3)

    def test_a_view_that_is_none_comes_ahead_of_all(self):
        for view in (None, [[1]], ([[None]], [1], [2]), list(making.square()), ([[True]], [1], [1])):
            for place in (None, (9, 9), [0, 0], "00", (True, 0)):
                self.refuses(BadView, ends, view, place)
                self.refuses(BadView, walls, view, place)
            for width in (0, None, True, "3", -1, 1.0, []):
                self.refuses(BadView, given_away, view, width)

    def test_what_is_no_hidden_place(self):
        cells = [[None, 4], [3, None], [None, None]]
        for view in ((cells, [6, 6, 4], [8, 8]), (cells, [9, 3, 4], [8, 8])):
            shown = [(0, 1), (1, 0)]
            beyond = [(3, 0), (0, 2), (2, 2), (3, 1), (1, 2), (8, 8), (0, VAST), (-1, 1), (-3, 0), (2, -2)]
            for place in NO_PLACES + shown + beyond:
                if place != (0, 0) or type(place[0]) is not int or type(place[1]) is not int:
                    self.refuses(BadPlace, ends, view, place)
                    self.refuses(BadPlace, walls, view, place)

    def test_a_hidden_place_of_the_view_turned_about(self):
        for call in (ends, walls):
            self.refuses(BadPlace, call, ([[None, None]], [2], [1, 1]), (1, 0))
            self.refuses(BadPlace, call, ([[None], [None]], [1, 1], [2]), (0, 1))

    def test_no_hidden_place_at_all(self):
        for view in (checking.veiled([[1, 2]], []), ([[1, 2]], [4], [2, 2])):
            for place in ((0, 0), (0, 1), None):
                self.refuses(BadPlace, ends, view, place)
                self.refuses(BadPlace, walls, view, place)

    def test_a_place_that_is_none_comes_ahead_of_no_table(self):
        for place in ((0, 0), (0, 1), (2, 0), None, [1, 0], (True, 0), (1, False), (1, 0, 0), "10"):
            self.refuses(BadPlace, ends, FULL_ROW, place)
            self.refuses(BadPlace, walls, FULL_ROW, place)
        for place in ((1, 0), (1, 1)):
            self.refuses(NoTable, ends, FULL_ROW, place)
            self.refuses(NoTable, walls, FULL_ROW, place)

    def test_what_is_no_width(self):
        for width in no_numbers():
            for view in (making.square(), checking.veiled([[1, 2]], []), making.ladder(8)):
                self.refuses(BadNumber, given_away, view, width)

    def test_a_width_that_is_none_comes_ahead_of_no_table(self):
        for view in making.hopeless():
            for width in (0, -1, None, True, "1", [], 2.0):
                self.refuses(BadNumber, given_away, view, width)
            self.refuses(NoTable, given_away, view, 1)

    def test_no_table(self):
        for view in making.hopeless():
            for place in checking.hidden_in(view):
                self.assertIsNone(self.span(view, place))
                self.refuses(NoTable, ends, view, place)
                self.refuses(NoTable, walls, view, place)
            for width in (1, 3, VAST):
                self.assertIsNone(self.away(view, width))
                self.refuses(NoTable, given_away, view, width)

    def test_their_parameters(self):
        self.takes(ends, ("view", "place"))
        self.takes(walls, ("view", "place"))
        self.takes(given_away, ("view", "width"))


class Own(Judge):
    def test_the_answers_are_the_askers_own(self):
        for view in making.solvable():
            for place in checking.hidden_in(view)[:6]:
                self.is_own(ends, copy.deepcopy(view), place)
                self.is_own(walls, copy.deepcopy(view), place)
            for width in (1, 3, VAST):
                self.is_own(given_away, copy.deepcopy(view), width)

    def test_the_low_wall_of_nought_is_new_each_time(self):
        view = making.square()
        first, again = walls(view, (0, 0)), walls(view, (0, 0))
        self.is_new([first, again])
        told = copy.deepcopy(first)
        spoil(again)
        self.assertEqual(first, told)
        for place in checking.hidden_in(view):
            self.span(view, place)

    def test_lists_that_are_handed_in_twice(self):
        row, sums = [None, None], [3, 3]
        for call in (ends, walls):
            self.is_new(call(([row, row], sums, sums), (0, 1)), [row, sums])
        self.assertEqual((row, sums), ([None, None], [3, 3]))

    def test_the_refusal_is_the_askers_own(self):
        for call in (ends, walls):
            first, again = self.told(call, FULL_ROW, (1, 0)), self.told(call, FULL_ROW, (1, 0))
            told = (list(first.rows), list(first.columns))
            self.is_new([first.rows, first.columns, again.rows, again.columns])
            spoil([again.rows, again.columns])
            self.assertEqual((first.rows, first.columns), told)
            once_more = self.told(call, FULL_ROW, (1, 0))
            self.assertEqual((once_more.rows, once_more.columns), told)

    def test_a_changed_view_has_other_answers(self):
        view = making.square()
        first = (ends(view, (0, 0)), walls(view, (0, 0)), given_away(view, 4))
        told = copy.deepcopy(first)
        view[0][1][1] = 1
        self.assertEqual(self.span(view, (0, 0)), (1, 1))
        self.assertEqual(given_away(view, 1), [(0, 0), (0, 1), (1, 0)])
        self.refuses(BadPlace, ends, view, (1, 1))
        self.refuses(BadPlace, walls, view, (1, 1))
        view[1][0] = 1
        self.refuses(BadView, walls, view, (0, 0))
        self.assertEqual(first, told)
        fresh = making.square()
        self.assertEqual((ends(fresh, (0, 0)), walls(fresh, (0, 0)), given_away(fresh, 4)), told)
