"""Hiding the small counts and others, safe together, and showing where that can't be (points 8 to 10)."""

import copy
import random
from itertools import product

from tests import checking
from tests.checking import Choices, places_of, smalls
from tests.helping import HUGE, STRANGE, VAST, no_numbers, no_tables, spoil
from tests.judging import Judge
from tests.making import EIGHT
from veiled.bounds import given_away
from veiled.errors import BadNumber, BadTable, NotHidden
from veiled.hiding import hide
from veiled.reader import holds
from veiled.tables import small_places
from veiled.views import view_of

EMPTY = ([], [], [], [])
SQUARE = [[1, 5], [5, 9]]


class AllChoices(Judge):
    """Small tables, held against a look at every choice of hidden places."""

    def tried(self, table, bounds=(1, 2, 3, 4), widths=(1, 2, 3, 4)):
        choices = Choices(table)
        above = max(max(row) for row in table) + 1
        for bound, width in product(bounds, tuple(widths) + (above, 3 * above)):
            hidden = self.hides(table, bound, width)
            safe = choices.safe_ones(bound, width)
            self.assertIs(hidden is None, not safe, (table, bound, width))
            if hidden is not None:
                choice = choices.choice_of(hidden)
                self.assertIn(choice, choices.least_ones(bound, width), (table, bound, width))
                self.without_one(choices, choice, bound, width)

    def without_one(self, choices, choice, bound, width):
        """With one of the others shown again no choice among the rest is safe and has all small ones."""
        small = choices.choice_of(smalls(choices.table, bound))
        for place in choices.places_in(choice & ~small):
            rest = choice & ~choices.choice_of([place])
            fit = [one for one in choices.safe_ones(bound, width) if one & rest == one]
            self.assertEqual(fit, [])

    def made(self, seed, many, height, width, top):
        rng = random.Random(seed)
        for _ in range(many):
            self.tried([[rng.randint(0, top) for _ in range(width)] for _ in range(height)])

    def test_each_two_by_two_with_counts_to_two(self):
        for flat in product(range(3), repeat=4):
            self.tried([list(flat[:2]), list(flat[2:])], (1, 2), (1, 2))

    def test_one_row_and_one_column(self):
        for flat in product(range(4), repeat=3):
            self.tried([list(flat)], (1, 3), (1, 2))
            self.tried([[count] for count in flat], (1, 3), (1, 2))
        for count in range(6):
            self.tried([[count]])

    def test_two_by_two(self):
        self.made(21, 25, 2, 2, 9)

    def test_two_by_three_and_three_by_two(self):
        self.made(22, 12, 2, 3, 9)
        self.made(23, 12, 3, 2, 9)
        self.made(24, 6, 2, 3, 4)

    def test_three_by_three(self):
        self.made(25, 8, 3, 3, 4)
        self.made(26, 6, 3, 3, 6)
        self.made(27, 2, 3, 3, 9)

    def test_three_by_three_with_few_counts(self):
        rng = random.Random(28)
        for _ in range(12):
            table = [[rng.choice((0, 0, 1, 3, 7)) for _ in range(3)] for _ in range(3)]
            self.tried(table, (1, 3), (1, 2, 4))


class Papers(Judge):
    def test_a_square(self):
        for width in range(1, 7):
            self.assertEqual(self.hides(SQUARE, 3, width), places_of(SQUARE))
        first, others, pairs, roads = hide(SQUARE, 3, 6)
        self.assertEqual((first, others), ([(0, 0)], [(0, 1), (1, 0), (1, 1)]))
        for place, one, other in pairs:
            self.assertEqual(sorted([one, other]), [[[0, 6], [6, 8]], [[6, 0], [0, 14]]])
        for place, road in roads:
            self.assertEqual(road[-1][0], (0, 0))
        self.assertIsNone(self.hides(SQUARE, 3, 7))

    def test_no_small_count(self):
        for table in ([[0]], [[9]], [[0, 7], [8, 9]], [[0] * 8] * 8, [[VAST] * 8 for _ in range(8)]):
            for width in (1, 4, VAST):
                self.assertEqual(hide(table, 3, width), EMPTY)
                self.assertEqual(self.hides(table, 3, width), [])
                self.assertEqual([type(part) for part in hide(table, 3, width)], [list] * 4)

    def test_none_of_the_others_is_needed(self):
        table = [[1, 2, 9], [2, 1, 8], [9, 8, 7]]
        paper = hide(table, 2, 3)
        self.assertEqual(paper[:2], ([(0, 0), (0, 1), (1, 0), (1, 1)], []))
        self.assertEqual(paper[3], [])
        self.assertEqual(self.hides(table, 2, 3), paper[0])

    def test_one_of_the_others_is_needed(self):
        for table in ([[1, 2, 9], [2, 5, 8]], [[1, 2], [2, 5], [9, 8]]):
            paper = hide(table, 2, 3)
            self.assertEqual(paper[:2], ([(0, 0), (0, 1), (1, 0)], [(1, 1)]))
            self.assertEqual(self.hides(table, 2, 3), [(0, 0), (0, 1), (1, 0), (1, 1)])

    def test_many_of_the_others_are_needed(self):
        table = [[1 if at == across else 20 for across in range(8)] for at in range(8)]
        for width in (1, 5, 21):
            hidden = self.hides(table, 1, width)
            self.assertGreaterEqual(len(hidden), 16)
        table = [[0 if abs(at - across) > 1 else 3 for across in range(8)] for at in range(8)]
        table[4][4] = 1
        self.assertIsNotNone(self.hides(table, 1, 3))

    def test_a_road_of_several_steps(self):
        found = []
        rng = random.Random(31)
        for _ in range(40):
            table = [[rng.choice((0, 0, 1, 4, 12)) for _ in range(5)] for _ in range(5)]
            for width in (2, 6, 13):
                if self.hides(table, 1, width):
                    found += [len(road) for _, road in hide(table, 1, width)[3]]
        self.assertGreater(len(found), 50)
        self.assertIn(1, found)
        self.assertGreater(max(found), 1)

    def test_one_row_and_one_column_can_not_be_hidden(self):
        for counts in ([1], [1, 1], [1, 5], [0, 1, 0, 5], [1, 2, 3, 4, 5, 6, 7, 8], [VAST, 1]):
            for table in ([list(counts)], [[count] for count in counts]):
                for width in (1, 2, VAST):
                    self.refuses(NotHidden, hide, table, 1, width)
                    self.assertIsNone(self.hides(table, 1, width))

    def test_one_row_and_one_column_without_small_counts(self):
        for counts in ([0], [5], [0, 5, VAST], [9] * 8):
            for table in ([list(counts)], [[count] for count in counts]):
                self.assertEqual(hide(table, 4, 1), EMPTY)

    def test_the_road_of_a_refusal(self):
        for table, bound, width in (([[1]], 1, 1), (SQUARE, 3, 7), (SQUARE, 4, VAST), ([[1, 0], [0, 0]], 1, 2)):
            with self.assertRaises(NotHidden) as held:
                hide(table, bound, width)
            road = held.exception.road
            self.assertTrue(checking.is_road(road, table, bound, width, places_of(table)))

    def test_a_width_far_above_each_count(self):
        rng = random.Random(32)
        for _ in range(10):
            table = [[rng.randint(0, 9) for _ in range(8)] for _ in range(8)]
            for width in (10 ** 3, HUGE, VAST):
                self.assertIsNone(self.hides(table, 2, width) if smalls(table, 2) else None)
        table = [[1, VAST], [VAST, VAST]]
        self.assertEqual(self.hides(table, 1, VAST + 1), places_of(table))
        self.assertIsNone(self.hides(table, 1, VAST + 2))

    def test_a_bound_far_above_each_count(self):
        table = [[(3 * at + 5 * across) % 7 for across in range(8)] for at in range(8)]
        for bound in (6, 7, HUGE, VAST):
            paper = hide(table, bound, 3)
            self.assertEqual(paper[0], [place for place in places_of(table) if table[place[0]][place[1]]])
            self.assertIsNotNone(self.hides(table, bound, 3))

    def test_zeros_are_not_small_but_may_be_hidden(self):
        table = [[1, 0], [0, 1]]
        paper = hide(table, 1, 1)
        self.assertEqual(paper[:2], ([(0, 0), (1, 1)], [(0, 1), (1, 0)]))
        self.assertEqual(self.hides(table, VAST, 1), places_of(table))
        self.assertIsNone(self.hides(table, 1, 2))
        self.assertIsNone(self.hides([[1, 0], [0, 0]], 1, 1))

    def test_eight_by_eight(self):
        rng = random.Random(33)
        tables = [EIGHT, [[1] * 8 for _ in range(8)], [[8 * at + across for across in range(8)] for at in range(8)]]
        for top in (2, 5, 30, 400, HUGE, VAST):
            tables.append([[rng.randint(0, top) for _ in range(8)] for _ in range(8)])
            tables.append([[rng.choice((0, 0, 1, 2, top)) for _ in range(8)] for _ in range(8)])
        found = [
            self.hides(table, bound, width) is None
            for table in tables for bound in (1, 4) for width in (1, 3, 25, 1000)
        ]
        self.assertIn(True, found)
        self.assertIn(False, found)

    def test_small_counts_only(self):
        for size in range(2, 9):
            table = [[1 + (at + across) % 3 for across in range(size)] for at in range(size)]
            paper = hide(table, 3, 2)
            self.assertEqual(paper[:2], (places_of(table), []))
            self.assertEqual(self.hides(table, 3, 2), places_of(table))

    def test_every_size(self):
        rng = random.Random(34)
        for height, width in product(range(1, 9), repeat=2):
            table = [[rng.randint(0, 9) for _ in range(width)] for _ in range(height)]
            self.hides(table, 2, 3)
            self.hides(table, 3, 9)

    def test_nothing_that_is_hidden_is_given_away(self):
        rng = random.Random(35)
        for _ in range(20):
            table = [[rng.randint(0, 12) for _ in range(6)] for _ in range(5)]
            for bound, width in ((1, 1), (2, 4), (3, 8)):
                hidden = self.hides(table, bound, width)
                if hidden:
                    self.assertEqual(given_away(view_of(table, hidden), width), [])
                    self.assertTrue(set(small_places(table, bound)) <= set(hidden))

    def test_counts_that_are_the_same_but_for_their_size(self):
        table = [[1, 4, 6], [5, 2, 9], [7, 8, 3]]
        large = [[count * VAST for count in row] for row in table]
        for bound, width in ((1, 2), (2, 5), (3, 7), (3, 20)):
            # Made as much greater, nothing about it is told otherwise.
            hidden = self.hides(large, bound * VAST, width * VAST)
            choices = Choices(table)
            self.assertIs(hidden is None, not choices.safe_ones(bound, width))
            if hidden is not None:
                self.assertIn(choices.choice_of(hidden), choices.least_ones(bound, width))


class Refusals(Judge):
    def test_what_is_no_table(self):
        for thing in no_tables():
            self.refuses(BadTable, hide, thing, 3, 3)

    def test_what_is_no_bound(self):
        for thing in no_numbers():
            self.refuses(BadNumber, hide, SQUARE, thing, 3)
            self.refuses(BadNumber, hide, [[0]], thing, 3)

    def test_what_is_no_width(self):
        for thing in no_numbers():
            self.refuses(BadNumber, hide, SQUARE, 3, thing)
            # Without a small count, too, and where nothing could be hidden.
            self.refuses(BadNumber, hide, [[0]], 3, thing)
            self.refuses(BadNumber, hide, [[1]], 3, thing)

    def test_which_comes_first(self):
        for table in STRANGE + [[], [[True]], [[-1]], [[1], []]]:
            for bound, width in ((0, 3), (3, 0), (None, None), (True, "3")):
                self.refuses(BadTable, hide, table, bound, width)
        for bound, width in ((0, 3), (3, 0), (0, 0), (None, 7), ([], True), (1.0, 1.0)):
            self.refuses(BadNumber, hide, SQUARE, bound, width)
            self.refuses(BadNumber, hide, [[1, 1]], bound, width)

    def test_not_hidden(self):
        self.refuses(NotHidden, hide, [[1]], 1, 1)
        self.refuses(NotHidden, hide, SQUARE, 3, 7)
        self.refuses(NotHidden, hide, [[5, 1], [0, 0]], 1, 1)

    def test_its_parameters(self):
        self.takes(hide, ("table", "bound", "width"))


class Own(Judge):
    tables = (SQUARE, [[1, 0], [0, 1]], [[0]], EIGHT, [[1, 1, 1], [1, 0, 7], [9, 1, 4]])

    def test_the_paper_is_the_askers_own(self):
        for table in self.tables:
            for width in (1, 3):
                if not isinstance(self.told(hide, table, 2, width), NotHidden):
                    self.is_own(hide, copy.deepcopy(table), 2, width)
        self.is_own(hide, [[0, 7], [8, 9]], 3, 2)

    def test_the_empty_paper_is_new_each_time(self):
        first, again = hide([[9]], 3, 2), hide([[9]], 3, 2)
        self.is_new([first, again])
        spoil(again)
        self.assertEqual(first, EMPTY)
        self.assertEqual(hide([[9]], 3, 2), EMPTY)

    def test_the_refusal_is_the_askers_own(self):
        for table, width in (([[1]], 1), (SQUARE, 7), ([[1, 2, 3]], 2), ([[1, 0], [0, 0]], 1), (EIGHT, 10 ** 4)):
            first, again = self.told(hide, table, 3, width), self.told(hide, table, 3, width)
            self.is_new([first.road, again.road], [table])
            self.assertEqual(first.road, again.road)
            told = copy.deepcopy(first.road)
            spoil(again.road)
            self.assertEqual(first.road, told)
            self.assertEqual(self.told(hide, table, 3, width).road, told)

    def test_rows_that_are_one_list(self):
        row = [1, 5]
        paper = hide([row, row], 1, 2)
        self.is_new(paper, [row])
        self.assertEqual(row, [1, 5])
        self.assertIs(holds([row, row], 1, 2, paper), True)

    def test_a_changed_table_has_another_paper(self):
        table = copy.deepcopy(SQUARE)
        first = hide(table, 3, 6)
        told = copy.deepcopy(first)
        table[1][1] = 3
        table[0][0] = 6
        again = hide(table, 3, 6)
        self.assertEqual(again[0], [(1, 1)])
        self.assertTrue(checking.is_paper(again, table, 3, 6))
        table[1][1] = 30
        self.assertEqual(hide(table, 3, 6), EMPTY)
        self.assertEqual(first, told)
        self.assertEqual(hide(SQUARE, 3, 6), told)

    def test_what_is_asked_between_does_not_matter(self):
        asked = [(table, bound, width) for table in self.tables for bound in (1, 2) for width in (1, 3, 50)]
        told = [self.outcome(*one) for one in asked]
        self.assertEqual([self.outcome(*one) for one in reversed(asked)], told[::-1])

    def outcome(self, table, bound, width):
        answer = self.told(hide, copy.deepcopy(table), bound, width)
        return answer.road if isinstance(answer, NotHidden) else answer
