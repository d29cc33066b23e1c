"""The refusals: which stands under which, and their fields."""

import copy

from tests.helping import REFUSALS, Case, lists_in, spoil
from veiled import errors

LOW = (0, [], [])
HIGH = (3, [0], [1])


class Kinds(Case):
    def test_veil_error_stands_under_value_error(self):
        self.assertEqual(errors.VeilError.__bases__, (ValueError,))

    def test_each_refusal_stands_under_veil_error_and_under_no_other(self):
        for kind in REFUSALS:
            self.assertTrue(issubclass(kind, errors.VeilError))
            self.assertTrue(issubclass(kind, ValueError))
            for other in REFUSALS:
                self.assertEqual(issubclass(kind, other), kind is other, (kind, other))

    def test_plain_refusals_are_made_with_words(self):
        for kind in (errors.BadTable, errors.BadView, errors.BadPlace, errors.BadNumber):
            self.assertEqual(str(kind("some words")), "some words")

    def test_each_is_defined_in_the_file(self):
        for kind in REFUSALS + (errors.VeilError,):
            self.assertEqual(kind.__module__, "veiled.errors")


class Fields(Case):
    def test_no_table_has_rows_and_columns(self):
        for error in (errors.NoTable([0, 2], [1]), errors.NoTable(columns=[1], rows=[0, 2])):
            self.assertEqual((error.rows, error.columns), ([0, 2], [1]))
        error = errors.NoTable([], [])
        self.assertEqual((error.rows, error.columns), ([], []))

    def test_not_hidden_has_the_road(self):
        road = [((0, 1), LOW, HIGH), ((1, 1), (1, [1], []), (1, [1], [0]))]
        for error in (errors.NotHidden(road), errors.NotHidden(road=road)):
            self.assertEqual(error.road, road)

    def test_the_fields_are_set_when_the_object_is_created(self):
        self.assertEqual(set(vars(errors.NoTable([1], [2]))), {"rows", "columns"})
        self.assertEqual(set(vars(errors.NotHidden([((0, 0), LOW, HIGH)]))), {"road"})

    def test_they_are_caught_with_their_fields(self):
        self.refuses(errors.NoTable, self.no_table, [1], [0, 3])
        self.refuses(errors.NotHidden, self.not_hidden, [((0, 0), LOW, HIGH)])
        with self.assertRaises(ValueError) as held:
            self.no_table([1], [0, 3])
        self.assertEqual((held.exception.rows, held.exception.columns), ([1], [0, 3]))

    def test_each_refusal_is_caught_by_the_classes_above_it(self):
        for kind in (errors.BadTable, errors.BadView, errors.BadPlace, errors.BadNumber):
            self.refuses(kind, self.plain, kind)

    def no_table(self, rows, columns):
        raise errors.NoTable(rows, columns)

    def not_hidden(self, road):
        raise errors.NotHidden(road)

    def plain(self, kind):
        raise kind("some words")


class Own(Case):
    def test_no_table_neither_keeps_nor_changes_what_was_handed_in(self):
        both = [0, 2]
        error = errors.NoTable(both, both)
        self.is_new([error.rows, error.columns], [both])
        self.assertEqual(lists_in(error.args), [])
        spoil(both)
        self.assertEqual((error.rows, error.columns), ([0, 2], [0, 2]))
        spoil(error.rows)
        self.assertEqual(error.columns, [0, 2])

    def test_not_hidden_neither_keeps_nor_changes_what_was_handed_in(self):
        wall = (2, [0], [1])
        step = ((0, 0), wall, wall)
        road = [step, step]
        told = copy.deepcopy(road)
        error = errors.NotHidden(road)
        self.assertEqual(road, told)
        self.is_new(error.road, [road])
        self.assertEqual(lists_in(error.args), [])
        wall[1].append(5)
        road.pop()
        self.assertEqual(error.road, told)
        error.road[0][1][1].append(7)
        self.assertEqual(error.road[1:], told[1:])
        self.assertEqual(wall, (2, [0, 5], [1]))
