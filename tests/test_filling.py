"""Finding a table that has a view, and showing that none has it (points 4 and 5)."""

import copy

from tests import checking, making
from tests.helping import HUGE, VAST, spoil
from tests.judging import Judge
from tests.test_views import no_views
from veiled.errors import BadView, NoTable
from veiled.filling import filled
from veiled.views import has_view, is_view


class Made(Judge):
    def test_the_views_that_are_asked_about_are_views(self):
        for view in making.solvable() + making.hopeless() + making.unsettled():
            self.assertIs(is_view(view), True, view)


class Filled(Judge):
    def test_each_view_that_a_table_has(self):
        for view in making.solvable():
            table = self.fills(view)
            self.assertIsNotNone(table, view)
            self.assertIs(has_view(table, view), True)

    def test_where_one_table_alone_has_the_view(self):
        self.assertEqual(filled(([[None]], [0], [0])), [[0]])
        self.assertEqual(filled(([[None]], [VAST], [VAST])), [[VAST]])
        self.assertEqual(filled(([[1, 2], [3, 4]], [3, 7], [4, 6])), [[1, 2], [3, 4]])
        self.assertEqual(filled(([[None, 2, None]], [5], [3, 2, 0])), [[3, 2, 0]])
        self.assertEqual(filled(([[None], [None], [7]], [HUGE, 0, 7], [HUGE + 7])), [[HUGE], [0], [7]])
        self.assertEqual(filled(making.all_hidden([8 * VAST] + [0] * 7, [VAST] * 8)), [[VAST] * 8] + [[0] * 8] * 7)
        self.assertEqual(filled(making.all_hidden([0] * 3, [0] * 2)), [[0, 0]] * 3)
        self.assertEqual(filled(making.ladder(4)), [[2, 2, 4, 4], [4, 2, 2, 4], [4, 4, 2, 2], [4, 4, 4, 2]])

    def test_where_the_first_try_must_be_taken_back(self):
        self.assertEqual(filled(([[None, None], [None, 0]], [1, 1], [1, 1])), [[0, 1], [1, 0]])
        self.assertEqual(filled(([[None, None], [0, None]], [1, 1], [1, 1])), [[1, 0], [0, 1]])
        view = making.overladen(8, None)
        self.assertEqual(filled(view)[0][:2], [2, 4])

    def test_a_table_of_one_row_and_of_one_column(self):
        self.assertEqual(filled(([[None] * 8], [36], list(range(1, 9)))), [list(range(1, 9))])
        self.assertEqual(filled(([[None] for _ in range(8)], list(range(8)), [28])), [[k] for k in range(8)])


class NoneHas(Judge):
    def refused(self, view):
        with self.assertRaises(NoTable) as held:
            filled(view)
        return held.exception.rows, held.exception.columns

    def test_each_view_that_no_table_has(self):
        for view in making.hopeless():
            self.assertIsNone(self.fills(view), view)
            self.refuses(NoTable, filled, view)

    def test_where_one_proof_alone_is_right(self):
        self.assertEqual(self.refused(([[0]], [1], [1])), ([0], []))
        self.assertEqual(self.refused(([[None, 0]], [1], [0, 1])), ([0], [0]))
        self.assertEqual(self.refused(([[None], [0]], [0, 1], [1])), ([1], []))
        self.assertEqual(self.refused(([[None, 0], [None, None]], [3, 1], [2, 2])), ([0], [0]))
        self.assertEqual(self.refused(making.overladen(8, 4)), ([0, 1, 2, 3], [0, 1, 2, 3, 4]))
        self.assertEqual(self.refused(making.overladen(8, 6)), (list(range(6)), list(range(7))))
        self.assertEqual(self.refused(making.two_blocks(8, 3, HUGE)), ([0, 1, 2], [0, 1, 2]))

    def test_some_that_have_one_and_some_that_have_none(self):
        found = [self.fills(view) is None for view in making.unsettled()]
        self.assertGreater(found.count(True), 10)
        self.assertGreater(found.count(False), 10)

    def test_one_more_or_less_tells(self):
        for more in (0, 1, HUGE):
            view = ([[None, None], [None, 0]], [3 + more, 5], [5 + more, 3])
            self.assertIsNotNone(self.fills(view))
            view = ([[None, None], [None, 0]], [2 + more, 6], [5 + more, 3])
            self.assertIs(self.fills(view) is None, more == 0)


class Refusals(Judge):
    def test_what_is_no_view(self):
        for thing in no_views():
            self.refuses(BadView, filled, thing)

    def test_a_table_is_no_view(self):
        for table in ([[1]], making.EIGHT):
            self.refuses(BadView, filled, table)

    def test_its_parameter(self):
        self.takes(filled, ("view",))


class Own(Judge):
    def test_the_table_is_the_askers_own(self):
        for view in making.solvable()[:30]:
            self.is_own(filled, copy.deepcopy(view))

    def test_lists_that_are_handed_in_twice(self):
        row, sums = [None, 1], [3, 3]
        view = ([row, row], sums, [4, 2])
        table = self.fills(view)
        self.is_new(table, [view])
        self.assertEqual((row, sums), ([None, 1], [3, 3]))
        both = [3, 3]
        self.assertIsNotNone(self.fills(([[None, None], [None, None]], both, both)))
        self.assertEqual(both, [3, 3])

    def test_the_refusal_is_the_askers_own(self):
        for view in making.hopeless():
            first, again = self.told(filled, view), self.told(filled, view)
            fields = [first.rows, first.columns, again.rows, again.columns]
            self.is_new(fields, [view])
            self.assertEqual(fields[:2], fields[2:])
            told = copy.deepcopy(fields[:2])
            spoil(again.rows)
            spoil(again.columns)
            self.assertEqual([first.rows, first.columns], told)
            once_more = self.told(filled, view)
            self.assertEqual([once_more.rows, once_more.columns], told)

    def test_a_changed_view_has_another_answer(self):
        view = making.square()
        first = filled(view)
        told = copy.deepcopy(first)
        view[0][0][0] = 1
        self.assertEqual(filled(view), [[1, 2], [2, 1]])
        view[0][0][0] = 4
        self.refuses(BadView, filled, view)
        view[0][0][0] = None
        self.assertEqual(filled(view), told)
        self.assertEqual(first, told)
        self.assertEqual(checking.hidden_in(view), [(0, 0), (0, 1), (1, 0), (1, 1)])
