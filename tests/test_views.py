"""Views: what they are, and what is asked of them."""

import copy
from itertools import combinations, permutations, product

from tests.helping import HUGE, NO_COUNT, STRANGE, VAST, Case, no_tables, recursive_list, with_each
from veiled.errors import BadPlace, BadTable, BadView
from veiled.tables import column_sums, row_sums
from veiled.views import has_view, hidden_places, is_view, rests, view_of

PLAIN = [[3, 0, 12], [1, 7, 2]]
ONE_ROW = [[0, 4, 1, HUGE, 2]]
ONE_COLUMN = [[3], [0], [VAST], [1]]
EIGHT = [[8 * at + across for across in range(8)] for at in range(8)]
TABLES = [[[0]], [[1]], [[VAST]], ONE_ROW, ONE_COLUMN, EIGHT, PLAIN, [[0, 0], [0, 0]]]

VIEW = ([[None, 2, 0], [3, None, 1]], [5, 7], [4, 7, 1])
# No table has it: its first row has a rest and no hidden place.
FULL_ROW = ([[1, 2], [None, None]], [4, 0], [2, 2])


def places_of(table):
    return [(at, across) for at in range(len(table)) for across in range(len(table[0]))]


def no_views():
    """What is no view: of every kind, and with each part of a view, or of a part, wrong."""
    cells, of_rows, of_columns = VIEW
    found = STRANGE + [7, [], (), list(VIEW), VIEW[:2], VIEW + ([],), (VIEW,), [VIEW], [[1]]]
    found += [(None, None, None), ([], [], []), ([[]], [0], []), ((), (), ()), recursive_list()]
    wrong_parts = STRANGE + [5, [], (), [[]], tuple(of_rows), tuple(of_columns), tuple(cells)]
    found += [tuple(parts) for parts in with_each(list(VIEW), wrong_parts)]
    row_kinds = STRANGE + [5, [], (None, 2, 0), (3, None, 1), [None], [None, 2], [None, 2, 0, 0]]
    found += [(wrong, of_rows, of_columns) for wrong in with_each(cells, row_kinds)]
    found += [([row, cells[1]], of_rows, of_columns) for row in with_each(cells[0], NO_COUNT)]
    sums_wrong = NO_COUNT + [None]
    found += [(cells, wrong, of_columns) for wrong in with_each(of_rows, sums_wrong)]
    found += [(cells, of_rows, wrong) for wrong in with_each(of_columns, sums_wrong)]
    return found + almost_views()


def almost_views():
    """What is no view for one thing alone, its sums being in order."""
    return [
        ([[True, None]], [2], [1, 1]),
        ([[False, None]], [1], [0, 1]),
        ([[1.0, None]], [2], [1, 1]),
        ([[-1, None]], [0], [0, 0]),
        ([[None]], [True], [1]),
        ([[None]], [1], [True]),
        ([[None]], [False], [0]),
        ([[None]], [1.0], [1]),
        ([[None]], [1, 0], [1]),
        ([[None]], [1], [1, 0]),
        ([[None, None]], [1], [1]),
        ([[None], [None]], [1], [1]),
        ([(None, 1)], [1], [0, 1]),
        (([None, 1],), [1], [0, 1]),
        ([[None, 1]], (1,), [0, 1]),
        ([[None, 1]], [1], (0, 1)),
        [[[None, 1]], [1], [0, 1]],
        ([[None, 1]], [1], [0, 1], None),
        ([[None, 1], [None]], [1, 0], [0, 1]),
        ([[None] for _ in range(9)], [0] * 9, [0]),
        ([[None] * 9], [0], [0] * 9),
        # A rest of one below nought, in a row, in a column, in two of each.
        ([[None, 3]], [2], [0, 3]),
        ([[None, 3]], [3], [1, 2]),
        ([[1, None], [None, None]], [0, 2], [1, 1]),
        ([[None, 1], [None, None]], [1, 1], [2, 0]),
        ([[1]], [0], [0]),
        # Rests of rows and of columns that come to different numbers.
        ([[None]], [1], [2]),
        ([[None]], [2], [1]),
        ([[None, 5]], [6], [2, 5]),
        ([[1, 2]], [3], [1, 3]),
        ([[VAST, None]], [VAST + 1], [VAST, 2]),
    ]


def looks_like_view(cells, of_rows, of_columns):
    """Point 3 told once more, for the cells and sums of the kinds that it asks for."""
    left_rows = list(of_rows)
    left_columns = list(of_columns)
    for at, across in places_of(cells):
        left_rows[at] -= cells[at][across] or 0
        left_columns[across] -= cells[at][across] or 0
    none_below = all(left >= 0 for left in left_rows + left_columns)
    return none_below and sum(left_rows) == sum(left_columns)


def grids(height, width, counts):
    """Every grid of this size."""
    for flat in product(counts, repeat=height * width):
        yield [list(flat[at * width:(at + 1) * width]) for at in range(height)]


def candidates(height, width):
    """Every tuple of small cells and small sums of this size."""
    for cells in grids(height, width, (None, 0, 1, 2)):
        for sums in product(range(3), repeat=height + width):
            yield cells, list(sums[:height]), list(sums[height:])


class IsView(Case):
    def test_views(self):
        for view in (VIEW, FULL_ROW, ([[None]], [VAST], [VAST]), ([[4]], [4], [4])):
            self.assertIs(is_view(view), True, view)

    def test_one_list_for_both_sums_and_for_all_rows(self):
        sums = [3, 3]
        row = [None, 1]
        self.assertIs(is_view(([row, row], sums, [4, 2])), True)
        self.assertIs(is_view(([[None, 1], [1, None]], sums, sums)), True)

    def test_every_size_from_one_to_eight_and_no_other(self):
        for height, width in product(range(10), repeat=2):
            view = ([[None] * width for _ in range(height)], [0] * height, [0] * width)
            fits = 1 <= height <= 8 and 1 <= width <= 8
            self.assertIs(is_view(view), fits, (height, width))

    def test_a_row_or_a_column_without_a_hidden_place_may_have_a_rest(self):
        self.assertIs(is_view(FULL_ROW), True)
        self.assertIs(is_view(([[1, None], [2, None]], [1, 4], [4, 1])), True)
        self.assertIs(is_view(([[1]], [3], [3])), True)

    def test_a_rest_of_nought_and_one_of_one_below(self):
        self.assertIs(is_view(([[None, 3]], [3], [0, 3])), True)
        self.assertIs(is_view(([[None, 3]], [2], [0, 3])), False)
        self.assertIs(is_view(([[None, 3]], [2], [0, 2])), False)
        self.assertIs(is_view(([[VAST, None]], [VAST], [VAST, 0])), True)
        self.assertIs(is_view(([[VAST, None]], [VAST - 1], [VAST, 0])), False)

    def test_the_rests_come_to_as_many(self):
        self.assertIs(is_view(([[None, 5]], [6], [1, 5])), True)
        self.assertIs(is_view(([[None, 5]], [6], [2, 5])), False)
        self.assertIs(is_view(([[None, 5]], [7], [1, 5])), False)

    def test_each_small_candidate(self):
        for height, width in ((1, 1), (1, 2), (2, 1), (1, 3), (3, 1)):
            for parts in candidates(height, width):
                self.assertIs(is_view(parts), looks_like_view(*parts), parts)

    def test_what_is_none(self):
        for thing in no_views():
            self.assertIs(is_view(thing), False, repr(thing))

    def test_a_table_is_none(self):
        for table in TABLES:
            self.assertIs(is_view(table), False)

    def test_a_changed_view_is_asked_for_anew(self):
        view = copy.deepcopy(VIEW)
        self.assertIs(is_view(view), True)
        view[1][0] = 6
        self.assertIs(is_view(view), False)
        view[2][2] = 2
        self.assertIs(is_view(view), True)
        view[0][0][2] = True
        self.assertIs(is_view(view), False)

    def test_nothing_is_changed(self):
        for view in [VIEW, FULL_ROW] + almost_views():
            before = copy.deepcopy(view)
            is_view(view)
            self.assertEqual(view, before)

    def test_its_parameter(self):
        self.takes(is_view, ("thing",))


class ViewOf(Case):
    def test_ordinary_places(self):
        view = view_of(PLAIN, [(0, 1), (1, 0), (1, 2)])
        self.assertEqual(view, ([[3, None, 12], [None, 7, None]], [15, 10], [4, 7, 14]))

    def test_no_place_one_place_all_places(self):
        for table in TABLES:
            sums = (row_sums(table), column_sums(table))
            self.assertEqual(view_of(table, []), (table,) + sums)
            nothing = [[None] * len(row) for row in table]
            self.assertEqual(view_of(table, places_of(table)), (nothing,) + sums)
            for at, across in places_of(table):
                cells = copy.deepcopy(table)
                cells[at][across] = None
                self.assertEqual(view_of(table, [(at, across)]), (cells,) + sums)

    def test_the_places_may_come_in_any_order(self):
        places = [(0, 2), (1, 0), (1, 1)]
        for order in permutations(places):
            self.assertEqual(view_of(PLAIN, list(order)), view_of(PLAIN, places))
        backwards = list(reversed(places_of(EIGHT)))
        self.assertEqual(view_of(EIGHT, backwards), view_of(EIGHT, places_of(EIGHT)))

    def test_it_is_a_view_of_lists_in_a_tuple(self):
        for table in TABLES:
            view = view_of(table, places_of(table)[::2])
            self.assertIs(is_view(view), True)
            self.assertIs(type(view), tuple)
            self.assertEqual([type(part) for part in view], [list] * 3)
            self.assertEqual({type(row) for row in view[0]}, {list})

    def test_what_is_no_list_of_places_is_refused(self):
        wrong = STRANGE + [5, (), ((0, 0),), (0, 0), [0, 0], [[0, 0]], [(0, 0), [0, 1]], "00"]
        wrong += [{(0, 0): None}, {(0, 0)}, [[(0, 0)]], recursive_list(), [[]]]
        for places in wrong:
            self.refuses(BadPlace, view_of, PLAIN, places)

    def test_what_is_no_place_is_refused(self):
        wrong = STRANGE + [0, 1, "00", (), (0,), (0, 0, 0), (0, 0, None), ((0, 0),), [0, 0], [], {0: 0}]
        wrong += [(-1, 0), (0, -1), (2, 0), (0, 3), (2, 3), (8, 8), (VAST, 0), (0, VAST), (-VAST, 0)]
        wrong += [(True, 0), (False, 0), (0, True), (0, False), (True, True), (0.0, 0), (0, 1.0)]
        wrong += [(None, 0), (0, None), ("0", 0), (0, "0"), ([], 0), (0, [0]), ({}, 0), ((0,), 0)]
        for place in wrong:
            for places in ([place], [(1, 2), place], [place, (1, 2)], [place, place]):
                self.refuses(BadPlace, view_of, PLAIN, places)

    def test_a_place_of_a_table_turned_about_is_refused(self):
        self.refuses(BadPlace, view_of, ONE_ROW, [(1, 0)])
        self.refuses(BadPlace, view_of, ONE_COLUMN, [(0, 1)])
        self.assertEqual(view_of(ONE_ROW, [(0, 4)])[0], [[0, 4, 1, HUGE, None]])
        self.assertEqual(view_of(ONE_COLUMN, [(3, 0)])[0], [[3], [0], [VAST], [None]])

    def test_a_place_twice_is_refused(self):
        for places in ([(0, 0), (0, 0)], [(0, 1), (1, 1), (0, 1)], places_of(PLAIN) + [(1, 2)]):
            self.refuses(BadPlace, view_of, PLAIN, places)

    def test_what_is_no_table_is_refused_ahead_of_the_places(self):
        for table in no_tables():
            for places in ([], [(0, 0)], None, [(9, 9)], ((0, 0),), [(0, 0), (0, 0)]):
                self.refuses(BadTable, view_of, table, places)

    def test_its_parameters(self):
        self.takes(view_of, ("table", "places"))


class HiddenPlaces(Case):
    def test_in_order(self):
        self.assertEqual(hidden_places(VIEW), [(0, 0), (1, 1)])
        self.assertEqual(hidden_places(FULL_ROW), [(1, 0), (1, 1)])
        self.assertEqual(hidden_places(view_of(PLAIN, [(1, 2), (0, 1), (1, 0)])),
                         [(0, 1), (1, 0), (1, 2)])

    def test_none_one_all(self):
        for table in TABLES:
            self.assertEqual(hidden_places(view_of(table, [])), [])
            everything = places_of(table)
            self.assertEqual(hidden_places(view_of(table, everything)), everything)
            for place in everything:
                self.assertEqual(hidden_places(view_of(table, [place])), [place])

    def test_a_count_of_nought_is_not_hidden(self):
        self.assertEqual(hidden_places(([[0, None]], [0], [0, 0])), [(0, 1)])

    def test_they_are_tuples_of_two_whole_numbers(self):
        found = hidden_places(VIEW)
        self.assertIs(type(found), list)
        for place in found:
            self.assertIs(type(place), tuple)
            self.assertEqual([type(number) for number in place], [int, int])

    def test_what_is_no_view_is_refused(self):
        for thing in no_views():
            self.refuses(BadView, hidden_places, thing)

    def test_its_parameter(self):
        self.takes(hidden_places, ("view",))


class Rests(Case):
    def test_ordinary_views(self):
        self.assertEqual(rests(VIEW), ([3, 3], [1, 5, 0]))
        self.assertEqual(rests(FULL_ROW), ([1, 0], [1, 0]))
        view = view_of(PLAIN, [(0, 0), (0, 2), (1, 2)])
        self.assertEqual(rests(view), ([15, 2], [3, 0, 14]))

    def test_nothing_and_everything_hidden(self):
        for table in TABLES:
            height, width = len(table), len(table[0])
            self.assertEqual(rests(view_of(table, [])), ([0] * height, [0] * width))
            sums = (row_sums(table), column_sums(table))
            self.assertEqual(rests(view_of(table, places_of(table))), sums)

    def test_one_hidden_place_is_the_rest(self):
        for table in TABLES:
            for at, across in places_of(table):
                of_rows, of_columns = rests(view_of(table, [(at, across)]))
                count = table[at][across]
                self.assertEqual(of_rows, [count if k == at else 0 for k in range(len(table))])
                self.assertEqual(of_columns, [count if k == across else 0 for k in range(len(table[0]))])

    def test_huge_sums(self):
        view = ([[None, VAST], [HUGE, None]], [2 * VAST, HUGE], [HUGE + VAST, VAST])
        self.assertEqual(rests(view), ([VAST, 0], [VAST, 0]))

    def test_a_tuple_of_two_lists_of_whole_numbers(self):
        told = rests(VIEW)
        self.assertIs(type(told), tuple)
        self.assertEqual([type(part) for part in told], [list, list])
        self.assertEqual({type(rest) for part in told for rest in part}, {int})

    def test_what_is_no_view_is_refused(self):
        for thing in no_views():
            self.refuses(BadView, rests, thing)

    def test_its_parameter(self):
        self.takes(rests, ("view",))


class HasView(Case):
    def test_a_table_has_each_of_its_views(self):
        for table in TABLES:
            everything = places_of(table)
            for places in ([], everything, everything[::2], everything[:1], everything[1:]):
                self.assertIs(has_view(table, view_of(table, places)), True)

    def test_another_count_at_a_hidden_place(self):
        view = view_of([[1, 4], [3, 2]], [(0, 0), (0, 1), (1, 0), (1, 1)])
        self.assertIs(has_view([[0, 5], [4, 1]], view), True)
        self.assertIs(has_view([[3, 2], [1, 4]], view), True)
        self.assertIs(has_view([[0, 5], [3, 2]], view), False)
        self.assertIs(has_view([[0, 4], [4, 2]], view), False)

    def test_another_count_at_a_shown_place(self):
        view = view_of([[1, 4], [3, 2]], [(0, 0), (0, 1), (1, 0)])
        self.assertIs(has_view([[1, 4], [3, 2]], view), True)
        self.assertIs(has_view([[0, 5], [4, 1]], view), False)

    def test_sums_to_the_last_digit(self):
        view = ([[None, 5]], [VAST + 5], [VAST, 5])
        self.assertIs(has_view([[VAST, 5]], view), True)
        self.assertIs(has_view([[VAST + 1, 5]], view), False)
        self.assertIs(has_view([[VAST - 1, 5]], view), False)

    def test_the_sums_of_the_view_may_be_others(self):
        self.assertIs(has_view([[1, 2]], ([[1, None]], [3], [1, 2])), True)
        self.assertIs(has_view([[1, 2]], ([[1, None]], [4], [1, 3])), False)
        self.assertIs(has_view([[1, 2]], ([[1, 2]], [4], [2, 2])), False)
        self.assertIs(has_view([[1, 2]], ([[1, 2]], [4], [1, 3])), False)
        swapped = ([[None, None], [None, None]], [1, 3], [3, 1])
        self.assertIs(has_view([[0, 1], [3, 0]], swapped), True)
        self.assertIs(has_view([[3, 0], [0, 1]], swapped), False)
        self.assertIs(has_view([[0, 3], [1, 0]], swapped), False)

    def test_no_table_has_a_full_row_with_a_rest(self):
        for table in grids(2, 2, range(5)):
            self.assertIs(has_view(table, FULL_ROW), False)

    def test_another_size(self):
        for height, width in product(range(1, 9), repeat=2):
            view = ([[None] * width for _ in range(height)], [0] * height, [0] * width)
            for tall, wide in ((1, 1), (height, width), (width, height), (8, 8), (height, 1)):
                table = [[0] * wide for _ in range(tall)]
                fits = (tall, wide) == (height, width)
                self.assertIs(has_view(table, view), fits, (tall, wide, height, width))

    def test_a_part_of_the_table_and_more_than_it(self):
        view = view_of([[1, 4], [3, 2]], [(0, 0), (1, 1)])
        for table in ([[1, 4]], [[1], [3]], [[1, 4, 0], [3, 2, 0]], [[1, 4], [3, 2], [0, 0]]):
            self.assertIs(has_view(table, view), False)

    def test_a_table_turned_about(self):
        view = view_of([[1, 2]], [(0, 0), (0, 1)])
        self.assertIs(has_view([[1], [2]], view), False)
        square = view_of([[1, 2], [3, 4]], [(0, 1), (1, 0)])
        self.assertIs(has_view([[1, 3], [2, 4]], square), False)
        turned = view_of([[1, 3], [2, 4]], [(0, 1), (1, 0)])
        self.assertIs(has_view([[1, 3], [2, 4]], turned), True)

    def test_each_small_table_and_view(self):
        tables = [table for size in ((1, 1), (1, 2), (2, 1)) for table in grids(*size, range(3))]
        for size in ((1, 1), (1, 2), (2, 1)):
            for view in candidates(*size):
                if looks_like_view(*view):
                    for table in tables:
                        self.assertIs(has_view(table, view), self.shows(table, view), (table, view))

    def shows(self, table, view):
        """Point 4 told once more."""
        cells, of_rows, of_columns = view
        if (len(table), len(table[0])) != (len(cells), len(cells[0])):
            return False
        places = places_of(table)
        alike = all(cells[at][across] in (None, table[at][across]) for at, across in places)
        return alike and (row_sums(table), column_sums(table)) == (of_rows, of_columns)

    def test_each_choice_of_hidden_places(self):
        table = [[1, 2], [3, 4]]
        others = [[[0, 3], [4, 3]], [[2, 1], [2, 5]], [[1, 2], [4, 3]], table]
        for many in range(5):
            for places in combinations(places_of(table), many):
                view = view_of(table, list(places))
                for other in others:
                    self.assertIs(has_view(other, view), self.shows(other, view))

    def test_what_is_no_table_is_refused_ahead_of_the_view(self):
        for table in no_tables():
            for view in (VIEW, None, [], ([[None]], [1], [2]), list(VIEW), table):
                self.refuses(BadTable, has_view, table, view)

    def test_what_is_no_view_is_refused(self):
        for view in no_views():
            self.refuses(BadView, has_view, PLAIN, view)
            self.refuses(BadView, has_view, [[0]], view)

    def test_its_parameters(self):
        self.takes(has_view, ("table", "view"))


class Own(Case):
    def test_the_answers_are_the_askers_own(self):
        for table in TABLES:
            for places in ([], places_of(table), places_of(table)[::-3]):
                self.is_own(view_of, copy.deepcopy(table), list(places))
                view = view_of(table, places)
                self.is_own(hidden_places, copy.deepcopy(view))
                self.is_own(rests, copy.deepcopy(view))
                self.is_own(has_view, copy.deepcopy(table), copy.deepcopy(view))
        for view in (VIEW, FULL_ROW):
            self.is_own(hidden_places, copy.deepcopy(view))
            self.is_own(rests, copy.deepcopy(view))

    def test_lists_that_are_handed_in_twice(self):
        row = [1, 5]
        view = view_of([row, row], [(0, 0)])
        self.is_new(view, [row])
        self.assertEqual(view, ([[None, 5], [1, 5]], [6, 6], [2, 10]))
        self.assertEqual(row, [1, 5])
        sums = [3, 3]
        told = rests(([[None, 1], [1, None]], sums, sums))
        self.is_new(told, [sums])
        self.assertEqual((told, sums), (([2, 2], [2, 2]), [3, 3]))

    def test_a_changed_table_has_new_views(self):
        table = [[1, 2], [3, 4]]
        places = [(0, 0)]
        first = view_of(table, places)
        places.append((1, 1))
        table[1][0] = HUGE
        self.assertEqual(view_of(table, places), ([[None, 2], [HUGE, None]], [3, HUGE + 4], [HUGE + 1, 6]))
        self.assertEqual(first, ([[None, 2], [3, 4]], [3, 7], [4, 6]))
        self.assertIs(has_view(table, first), False)
        table[1][0] = 3
        self.assertIs(has_view(table, first), True)
        first[0][1][1] = 5
        self.refuses(BadView, has_view, table, first)
        self.assertEqual(table, [[1, 2], [3, 4]])

    def test_a_changed_view_has_new_answers(self):
        view = copy.deepcopy(VIEW)
        hidden, left = hidden_places(view), rests(view)
        view[0][0][1] = None
        self.assertEqual(hidden_places(view), [(0, 0), (0, 1), (1, 1)])
        self.assertEqual(rests(view), ([5, 3], [1, 7, 0]))
        self.assertEqual((hidden, left), ([(0, 0), (1, 1)], ([3, 3], [1, 5, 0])))
        view[1][0] = 6
        for call in (hidden_places, rests):
            self.refuses(BadView, call, view)

    def test_the_parts_of_a_view_are_independent(self):
        table = [[2, 3], [3, 2]]
        view = view_of(table, [])
        self.assertEqual(view, (table, [5, 5], [5, 5]))
        view[1][0] = 9
        view[0][0][0] = None
        self.assertEqual(view, ([[None, 3], [3, 2]], [9, 5], [5, 5]))
        self.assertEqual(table, [[2, 3], [3, 2]])
