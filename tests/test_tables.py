"""Tables, their sums, and the places of their small counts."""

import copy

from tests.helping import HUGE, STRANGE, VAST, Case, no_numbers, no_tables
from veiled.errors import BadNumber, BadTable
from veiled.tables import column_sums, is_table, row_sums, small_places

ONE_ROW = [[0, 4, 1, HUGE, 2]]
ONE_COLUMN = [[3], [0], [VAST], [1]]
EIGHT = [[8 * at + across for across in range(8)] for at in range(8)]
PLAIN = [[3, 0, 12], [1, 7, 2]]
TABLES = [[[0]], [[1]], [[VAST]], ONE_ROW, ONE_COLUMN, EIGHT, PLAIN, [[0, 0], [0, 0]], [[5] * 8],
          [[5] for _ in range(8)]]


class IsTable(Case):
    def test_tables(self):
        for table in TABLES:
            self.assertIs(is_table(table), True, table)

    def test_every_size_from_one_to_eight_and_no_other(self):
        for height in range(11):
            for width in range(11):
                table = [[1] * width for _ in range(height)]
                fits = 1 <= height <= 8 and 1 <= width <= 8
                self.assertIs(is_table(table), fits, (height, width))

    def test_one_list_may_be_every_row(self):
        row = [1, 2]
        self.assertIs(is_table([row, row]), True)

    def test_what_is_none(self):
        for thing in no_tables():
            self.assertIs(is_table(thing), False, repr(thing))

    def test_a_changed_table_is_asked_for_anew(self):
        table = [[1, 2], [3, 4]]
        self.assertIs(is_table(table), True)
        table[1].append(5)
        self.assertIs(is_table(table), False)
        table[0].append(5)
        self.assertIs(is_table(table), True)
        table[0][0] = True
        self.assertIs(is_table(table), False)

    def test_nothing_is_changed(self):
        for thing in TABLES + [[[1], [1, 2]], [[True]], {0: [1]}, [[], [1]]]:
            before = copy.deepcopy(thing)
            is_table(thing)
            self.assertEqual(thing, before)

    def test_its_parameter(self):
        self.takes(is_table, ("thing",))


class Sums(Case):
    def test_ordinary_tables(self):
        self.assertEqual(row_sums(PLAIN), [15, 10])
        self.assertEqual(column_sums(PLAIN), [4, 7, 14])

    def test_one_count(self):
        for count in (0, 1, HUGE, VAST):
            self.assertEqual(row_sums([[count]]), [count])
            self.assertEqual(column_sums([[count]]), [count])

    def test_one_row_and_one_column(self):
        self.assertEqual(row_sums(ONE_ROW), [HUGE + 7])
        self.assertEqual(column_sums(ONE_ROW), [0, 4, 1, HUGE, 2])
        self.assertEqual(row_sums(ONE_COLUMN), [3, 0, VAST, 1])
        self.assertEqual(column_sums(ONE_COLUMN), [VAST + 4])

    def test_eight_by_eight(self):
        self.assertEqual(row_sums(EIGHT), [64 * at + 28 for at in range(8)])
        self.assertEqual(column_sums(EIGHT), [8 * across + 224 for across in range(8)])

    def test_huge_counts_are_summed_to_the_last_digit(self):
        self.assertEqual(row_sums([[VAST, 1, HUGE]]), [10 ** 60 + 10 ** 18 + 11])
        self.assertEqual(column_sums([[VAST], [VAST], [1]]), [2 * 10 ** 60 + 7])

    def test_they_give_lists_of_whole_numbers(self):
        for table in TABLES:
            for sums in (row_sums(table), column_sums(table)):
                self.assertIs(type(sums), list)
                self.assertEqual({type(total) for total in sums}, {int})
            self.assertEqual(len(row_sums(table)), len(table))
            self.assertEqual(len(column_sums(table)), len(table[0]))

    def test_what_is_no_table_is_refused(self):
        for thing in no_tables():
            self.refuses(BadTable, row_sums, thing)
            self.refuses(BadTable, column_sums, thing)

    def test_their_parameters(self):
        self.takes(row_sums, ("table",))
        self.takes(column_sums, ("table",))


class SmallPlaces(Case):
    def test_in_order_by_row_then_by_column(self):
        self.assertEqual(small_places(PLAIN, 3), [(0, 0), (1, 0), (1, 2)])
        self.assertEqual(small_places([[2, 1], [1, 2]], 2), [(0, 0), (0, 1), (1, 0), (1, 1)])

    def test_the_bound_as_great_as_a_count_one_less_one_more(self):
        for count in (1, 2, 5, HUGE, VAST):
            for bound in (count - 1, count, count + 1):
                if bound >= 1:
                    found = [(0, 1)] if count <= bound else []
                    self.assertEqual(small_places([[0, count]], bound), found)

    def test_the_bound_of_one(self):
        self.assertEqual(small_places([[0, 1, 2]], 1), [(0, 1)])

    def test_nought_is_not_small(self):
        self.assertEqual(small_places([[0]], 5), [])
        self.assertEqual(small_places([[0, 0], [0, 1]], VAST), [(1, 1)])

    def test_one_row_and_one_column(self):
        self.assertEqual(small_places(ONE_ROW, 3), [(0, 2), (0, 4)])
        self.assertEqual(small_places(ONE_COLUMN, 3), [(0, 0), (3, 0)])
        self.assertEqual(small_places(ONE_COLUMN, VAST), [(0, 0), (2, 0), (3, 0)])

    def test_eight_by_eight(self):
        self.assertEqual(small_places(EIGHT, 9), [(0, at) for at in range(1, 8)] + [(1, 0), (1, 1)])
        everything = [(at, across) for at in range(8) for across in range(8)]
        self.assertEqual(small_places(EIGHT, 63), everything[1:])
        self.assertEqual(small_places(EIGHT, 62), everything[1:-1])

    def test_they_are_tuples_of_two_whole_numbers(self):
        for table in TABLES:
            found = small_places(table, 40)
            self.assertIs(type(found), list)
            for place in found:
                self.assertIs(type(place), tuple)
                self.assertEqual([type(number) for number in place], [int, int])

    def test_what_is_no_table_is_refused(self):
        for thing in no_tables():
            self.refuses(BadTable, small_places, thing, 3)

    def test_what_is_no_bound_is_refused(self):
        for thing in no_numbers():
            self.refuses(BadNumber, small_places, PLAIN, thing)
            self.refuses(BadNumber, small_places, [[0]], thing)

    def test_of_two_wrong_things_the_table_is_refused(self):
        for table in STRANGE + [[], [[True]], [[-1]], [[1], []]]:
            for bound in (0, True, None, "3", []):
                self.refuses(BadTable, small_places, table, bound)

    def test_its_parameters(self):
        self.takes(small_places, ("table", "bound"))


class Own(Case):
    def test_the_answers_are_the_askers_own(self):
        for table in TABLES:
            self.is_own(row_sums, copy.deepcopy(table))
            self.is_own(column_sums, copy.deepcopy(table))
            for bound in (1, 4, VAST):
                self.is_own(small_places, copy.deepcopy(table), bound)

    def test_rows_that_are_one_list(self):
        row = [1, 5]
        self.is_own(row_sums, [row, row])
        self.assertEqual(column_sums([[1, 5]] * 3), [3, 15])

    def test_a_changed_table_has_new_answers(self):
        table = [[1, 2], [3, 4]]
        first = (row_sums(table), column_sums(table), small_places(table, 2))
        told = copy.deepcopy(first)
        table[0][1] = HUGE
        self.assertEqual(row_sums(table), [HUGE + 1, 7])
        self.assertEqual(column_sums(table), [4, HUGE + 4])
        self.assertEqual(small_places(table, 2), [(0, 0)])
        table.append([2, 0])
        self.assertEqual(row_sums(table), [HUGE + 1, 7, 2])
        self.assertEqual(column_sums(table), [6, HUGE + 4])
        self.assertEqual(small_places(table, 2), [(0, 0), (2, 0)])
        self.assertEqual(first, told)
        table[1][0] = None
        for call in (row_sums, column_sums):
            self.refuses(BadTable, call, table)
