"""Asking the program with every answer looked at by the words of the points, before it is used."""

import copy

from tests import checking
from tests.helping import Case
from veiled import errors
from veiled.bounds import ends, given_away, walls
from veiled.filling import filled
from veiled.hiding import hide
from veiled.reader import holds


class Judge(Case):
    def told(self, call, *handed):
        """What the call gives, or the error that refuses; nothing handed in is changed."""
        before = copy.deepcopy(handed)
        try:
            answer = call(*handed)
        except errors.VeilError as error:
            answer = error
        self.assertEqual(handed, before)
        return answer

    def is_refusal(self, error, kind, view):
        self.assertIs(type(error), kind, view)
        self.assertTrue(checking.is_proof(error.rows, error.columns, view), (error.rows, error.columns, view))
        self.is_new([error.rows, error.columns], [view])

    def fills(self, view):
        """A table that has the view, or None."""
        answer = self.told(filled, view)
        if isinstance(answer, errors.NoTable):
            self.is_refusal(answer, errors.NoTable, view)
            return None
        self.assertTrue(checking.is_table_of(answer, view), (answer, view))
        self.is_new(answer, [view])
        return answer

    def span(self, view, place):
        """Low and high at the place, or None; both ends and both walls show them."""
        tables, both = self.told(ends, view, place), self.told(walls, view, place)
        if isinstance(tables, errors.NoTable):
            self.is_refusal(tables, errors.NoTable, view)
            self.is_refusal(both, errors.NoTable, view)
            return None
        for answer in (tables, both):
            self.assertIs(type(answer), tuple)
            self.assertEqual(len(answer), 2)
            self.is_new(answer, [view])
        for table in tables:
            self.assertTrue(checking.is_table_of(table, view), (table, view))
        low, high = both
        self.assertTrue(checking.is_low(low, view, place), (low, view, place))
        self.assertTrue(checking.is_high(high, view, place), (high, view, place))
        found = tuple(table[place[0]][place[1]] for table in tables)
        self.assertEqual(found, (low[0], high[0]), (view, place))
        return found

    def away(self, view, width):
        """The places that are given away, or None."""
        answer = self.told(given_away, view, width)
        if isinstance(answer, errors.NoTable):
            self.is_refusal(answer, errors.NoTable, view)
            return None
        self.assertTrue(checking.are_spots(answer, view[0]), answer)
        return answer

    def spans(self, view):
        """Low and high at each hidden place, and all answers about the view agree with them."""
        table = self.fills(view)
        found = {place: self.span(view, place) for place in checking.hidden_in(view)}
        if table is None:
            self.assertEqual(set(found.values()) | {None}, {None})
            self.assertIsNone(self.away(view, 1))
            return None
        gaps = sorted({high - low for low, high in found.values()})
        for width in sorted({1} | {gap + more for gap in gaps for more in (0, 1) if gap + more}):
            narrow = [place for place, (low, high) in found.items() if high - low < width]
            self.assertEqual(self.away(view, width), narrow, (view, width))
        return found

    def hides(self, table, bound, width):
        """The places that are hidden, or None; the paper, or the road, is right and is read so."""
        answer = self.told(hide, table, bound, width)
        if isinstance(answer, errors.NotHidden):
            everything = checking.places_of(table)
            right = checking.is_road(answer.road, table, bound, width, everything)
            self.assertTrue(right, (table, bound, width, answer.road))
            self.is_new(answer.road, [table])
            return None
        self.assertNotIsInstance(answer, Exception, (table, bound, width))
        self.assertTrue(checking.is_paper(answer, table, bound, width), (table, bound, width, answer))
        self.assertIs(holds(table, bound, width, answer), True)
        self.is_new(answer, [table])
        return sorted(answer[0] + answer[1])
