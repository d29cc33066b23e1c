"""Telling of a paper whether it is a right one (points 9 to 11)."""

import copy
import random
from itertools import product

from tests import checking
from tests.changing import each_changed, nested, nested_tuple, other_kinds, other_worths, part_of, with_part
from tests.checking import Choices, is_high, is_low, is_paper, places_of, smalls, some_paper, some_road, veiled
from tests.helping import HUGE, STRANGE, VAST, Case, no_numbers, no_tables, recursive_list, spoil
from tests.judging import Judge
from tests.making import EIGHT
from veiled.errors import BadNumber, BadTable, NotHidden
from veiled.hiding import hide
from veiled.reader import holds

EMPTY = ([], [], [], [])
SQUARE = [[1, 5], [5, 9]]
NOUGHT = (0, [], [])

# The paper of the square for the bound 3 and widths from 1 to 6, made by hand.
LEAST = [[0, 6], [6, 8]]
MOST = [[6, 0], [0, 14]]
ONE_LEFT = (1, [0], [1])
PAPER = (
    [(0, 0)],
    [(0, 1), (1, 0), (1, 1)],
    [((0, 0), LEAST, MOST), ((0, 1), LEAST, MOST), ((1, 0), MOST, LEAST), ((1, 1), MOST, LEAST)],
    [
        ((0, 1), [((0, 0), (1, [0], []), (1, [0], []))]),
        ((1, 0), [((0, 0), (1, [0, 1], [1]), (1, [0, 1], [1]))]),
        ((1, 1), [((0, 0), ONE_LEFT, (1, [0], [1]))]),
    ],
)


def with_road(road):
    """The paper of the square with this road where (1, 1) is shown."""
    return with_part(PAPER, (3, 2, 1), road)


class Read(Case):
    def reads(self, paper, right, table=None, bound=3, width=6):
        """The paper is told to be right, or not, by the program and by the words of the points."""
        table = SQUARE if table is None else table
        self.assertIs(is_paper(paper, table, bound, width), right, (table, bound, width, paper))
        self.assertIs(holds(table, bound, width, paper), right, (table, bound, width, paper))


class ByHand(Read):
    def test_the_paper(self):
        for width in range(1, 7):
            self.reads(PAPER, True, width=width)
        self.reads(PAPER, False, width=7)
        self.reads(PAPER, True, bound=4)
        self.reads(PAPER, True, bound=1)
        self.reads(PAPER, False, bound=5)
        self.reads(PAPER, False, table=[[1, 5], [5, 8]])
        self.reads(PAPER, False, table=[[2, 5], [5, 9]])
        self.reads(PAPER, False, table=[[1, 5], [5, 9], [0, 0]])
        self.reads(PAPER, False, table=[[1, 5, 0], [5, 9, 0]])
        self.reads(PAPER, False, table=[[9, 5], [5, 9]])

    def test_the_lists_of_places(self):
        first, others, pairs, roads = PAPER
        for wrong in ([], [(0, 0), (0, 0)], [(0, 0), (0, 1)], [(0, 1)], [(1, 1)], [(0, 0), (2, 0)], [(-2, -2)]):
            self.reads((wrong, others, pairs, roads), False)
        for wrong in (
            [], others[1:], others[:-1], others + [(1, 1)], others + [(0, 0)], [(0, 0)] + others,
            others[::-1], [others[1], others[0], others[2]], others[:1] + others, others + [(1, 2)],
            [(0, 1), (0, 1), (1, 1)], [(0, -1), (1, 0), (1, 1)],
        ):
            self.reads((first, wrong, pairs, roads), False)
        # In the other list, with all else in order.
        self.reads(([], [(0, 0)] + others, pairs, [((0, 0), roads[0][1])] + roads), False)
        self.reads((first + others[:1], others[1:], pairs, roads[1:]), False)
        self.reads((others, first, pairs, roads[:1]), False)

    def test_the_pairs(self):
        first, others, pairs, roads = PAPER
        for place, one, other in pairs:
            at = pairs.index((place, one, other))
            self.reads(with_part(PAPER, (2, at), (place, other, one)), True)
            self.reads(with_part(PAPER, (2, at), (place, one, one)), False)
            self.reads(with_part(PAPER, (2, at), (place, one, SQUARE)), False)
            self.reads(with_part(PAPER, (2, at), (place, one)), False)
            self.reads(with_part(PAPER, (2, at), (place, one, other, other)), False)
            self.reads(with_part(PAPER, (2, at), ((at, 2), one, other)), False)
        for wrong in (
            [], pairs[1:], pairs[:-1], pairs[::-1], pairs + pairs[-1:], pairs[:1] + pairs,
            [pairs[0], pairs[2], pairs[1], pairs[3]], [pairs[0]] * 4, pairs[:2] + pairs[1:3],
        ):
            self.reads((first, others, wrong, roads), False)

    def test_the_tables_of_a_pair(self):
        for wrong in (
            [[-1, 7], [7, 7]], [[7, -1], [-1, 15]], [[6, 1], [0, 14]], [[6, 0], [1, 14]], [[6, 0], [0, 13]],
            [[6, 0]], [[6, 0], [0, 14], [0, 0]], [[6, 0, 0], [0, 14, 0]], [[6, False], [0, 14]],
            [[6, 0], (0, 14)], ([6, 0], [0, 14]), [[6, 0], [0, 14.0]], [[6, None], [0, 14]], [], [[]], None,
            [[6, 0], [0]], [6, 0, 0, 14], "6014", {0: [6, 0], 1: [0, 14]}, LEAST, [[20, 0], [0, 0]],
        ):
            self.reads(with_part(PAPER, (2, 0, 2), wrong), False)
            self.reads(with_part(PAPER, (2, 0), ((0, 0), wrong, LEAST)), False)

    def test_the_difference_of_a_pair(self):
        for count in range(7):
            table = [[count, 6 - count], [6 - count, 8 + count]]
            for width in range(1, 7):
                self.reads(with_part(PAPER, (2, 0, 2), table), count >= width, width=width)
                self.reads(with_part(PAPER, (2, 0), ((0, 0), table, LEAST)), count >= width, width=width)
                self.reads(with_part(PAPER, (2, 0, 1), table), 6 - count >= width, width=width)

    def test_a_shown_count_in_a_table(self):
        table = [[1, 5, 4], [5, 9, 4]]
        # The tables of each pair are to show fours in the third column.
        pairs = [(place,) + tuple([[row + [4] for row in one] for one in two]) for place, *two in PAPER[2]]
        paper = with_part(PAPER, (2,), pairs)
        self.reads(paper, True, table=table)
        for wrong in ([[6, 0, 4], [0, 13, 5]], [[5, 0, 5], [1, 14, 3]], [[6, 0, 3], [0, 14, 5]]):
            self.reads(with_part(paper, (2, 0, 2), wrong), False, table=table)

    def test_walls_that_are_right_too(self):
        step = ((0, 0), ONE_LEFT, ONE_LEFT)
        for low, high, from_width in (
            (ONE_LEFT, ONE_LEFT, 1), (NOUGHT, ONE_LEFT, 2), (ONE_LEFT, (6, [0], []), 6),
            (NOUGHT, (6, [0], []), 7), (ONE_LEFT, (6, [0, 1], [1]), 6), (ONE_LEFT, (11, [0, 1], []), 11),
        ):
            for width in range(1, 7):
                self.reads(with_road([((0, 0), low, high)]), width >= from_width, width=width)
        self.reads(with_road([step]), True)

    def test_walls_that_are_none(self):
        for wrong in (
            (0, [0], [1]), (2, [0], [1]), (-1, [0], [1]), (1, [], []), (1, [0], []), (1, [0], [0]), (0, [0], [0]),
            (1, [0], [1, 1]), (1, [0, 0], [1]), (0, [], [1]), (-5, [], [1]), (5, [1], []), (0, [1], [1]),
            (1, [0, 2], [1]), (1, [0], [1, 2]), (6, [-1, 0], [1]), (1, [-1, 0], []), (1, [0], [-1]), (1, [-2], [1]),
            (-5, [0], [0, 1]), (0, [0, 1], [0, 1]), (6, [1, 0], [1]), (True, [0], [1]), (1.0, [0], [1]),
            (1, [False], [1]), (1, [0], [True]), (1, (0,), [1]), (1, [0], (1,)), [1, [0], [1]], (1, [0]),
            (1, [0], [1], []), (1, {0: 0}, [1]), (1, [0], {1: 1}), (1, "0", "1"), ("1", [0], [1]), (None, [0], [1]),
            (), None, 1, "", {}, [], (1,), ((1, [0], [1]),), (1, [None], [1]), (1, [[0]], [1]), (1, [0], [1.0]),
        ):
            self.reads(with_part(PAPER, (3, 2, 1, 0, 1), wrong), False)
            self.reads(with_part(PAPER, (3, 2, 1, 0, 2), wrong), False)
            # So far off that the width alone would let it pass.
            self.reads(with_road([((0, 0), (1, [0], [1]), wrong)]), False, width=6)

    def test_the_wall_of_nought_is_no_high_one(self):
        table = [[0, 1], [1, 0]]
        self.assertIs(holds(table, 1, 1, hide(table, 1, 1)), True)
        road = with_part(hide(table, 1, 1), (3, 0, 1, 0, 2), NOUGHT)
        self.reads(road, False, table=table, bound=1, width=1)
        for low in (NOUGHT, ONE_LEFT):
            self.reads(with_road([((0, 0), low, NOUGHT)]), False)

    def test_what_is_no_wall_of_nought(self):
        road = [((0, 0), NOUGHT, ONE_LEFT)]
        self.reads(with_road(road), True)
        for wrong in (
            (False, [], []), (0, (), []), (0, [], ()), [0, [], []], (0, [], [], []), (0, []), (0.0, [], []),
            (1, [], []), (-1, [], []), (0, [1], [1]), (0, [0], [0]), (0, {}, {}), (0, None, None), (0, "", ""),
            (0, [[]], []), (0, [], [[]]), ("0", [], []), (0, [], [0]), (0, [2], []),
        ):
            self.reads(with_part(with_road(road), (3, 2, 1, 0, 1), wrong), False)

    def test_a_low_wall_below_nought(self):
        table = [[5, 3], [1, 9]]
        paper = hide(table, 1, 3)
        self.assertEqual(paper[1], [(0, 0), (0, 1), (1, 1)])
        for width in range(1, 7):
            paper = hide(table, 1, width)
            road = [((1, 0), (-2, [1], [1]), (1, [1], []))]
            self.reads(with_part(paper, (3, 2, 1), road), width > 3, table, 1, width)

    def test_roads(self):
        first = ((0, 1), (5, [0, 1], [0]), (5, [0, 1], [0]))
        # Once (0, 1) is shown the rests are 1 and 5, 6 and 0.
        second = ((1, 0), (5, [1], []), (5, [1], []))
        last = ((0, 0), (1, [0], []), (1, [0], []))
        small = ((0, 0), ONE_LEFT, ONE_LEFT)
        for road in ([small], [first, last], [first, second, last], [first, small], [first, second, small],
                     [second, first, last]):
            self.reads(with_road(road), True)
        for road in (
            [], [first], [second], [last], [first, second], [second, last], [last, first], [small, first],
            [small, small], [first, small, small], [first, first, small], [first, last, second],
            [first, second, last, last], [first, second, second, last], [last, first, second], None, (small,),
            {0: small}, [list(small)], [small[:2]], [small + (NOUGHT,)], [None], [()], [[]], "", 7,
            [first, None], [None, small], [first, small, None],
        ):
            self.reads(with_road(road), False)

    def test_a_wall_of_an_earlier_view_or_a_later_one(self):
        # In the first view of the road the row's rest is 6, afterwards 1; the column's is 5, then 0.
        first = ((0, 1), (5, [0, 1], [0]), (5, [0, 1], [0]))
        self.reads(with_road([((0, 0), ONE_LEFT, (6, [0], []))]), True)
        self.reads(with_road([first, ((0, 0), ONE_LEFT, (6, [0], []))]), False)
        self.reads(with_road([first, ((0, 0), ONE_LEFT, (1, [0], []))]), True)
        self.reads(with_road([((0, 0), ONE_LEFT, (1, [0], []))]), False)
        self.reads(with_road([((0, 0), (1, [0], []), ONE_LEFT)]), False)

    def test_a_step_at_a_place_that_is_not_hidden(self):
        for place in ((1, 1), (2, 0), (0, 2), (-1, 0), (0, -1), (-2, -2), (True, 0), (0, False), [0, 0], None, 0, "00",
                      (0,), (0, 0, 0), ((0, 0),), {}, ([], 0), (0.0, 0), (VAST, 0)):
            self.reads(with_road([(place, ONE_LEFT, ONE_LEFT)]), False)
            walls = (NOUGHT, (20, [0, 1], []))
            self.reads(with_road([(place,) + walls, ((0, 0), ONE_LEFT, ONE_LEFT)]), False)

    def test_the_roads_of_all_others(self):
        first, others, pairs, roads = PAPER
        for wrong in (
            [], roads[1:], roads[:-1], roads[::-1], roads + roads[-1:], roads[:1] + roads, [roads[0]] * 3,
            [roads[1], roads[0], roads[2]], [road for _, road in roads], [place for place, _ in roads],
            [((0, 0), roads[0][1])] + roads, roads + [((0, 0), roads[0][1])],
        ):
            self.reads((first, others, pairs, wrong), False)
        for at, (place, road) in enumerate(roads):
            for wrong in ((place,), (place, road, road), [place, road], (road, place), ((0, 0), road),
                          ((2, 2), road), (list(place), road), place, road, None, (None, road), (place, None)):
                self.reads(with_part(PAPER, (3, at), wrong), False)
        # A road of another one of the others.
        for at, other in product(range(3), repeat=2):
            swapped = with_part(PAPER, (3, at, 1), roads[other][1])
            self.assertIs(holds(SQUARE, 3, 6, swapped), is_paper(swapped, SQUARE, 3, 6))
        self.reads(with_part(PAPER, (3, 0, 1), roads[2][1]), False)
        self.reads(with_part(PAPER, (3, 2, 1), roads[0][1]), False)

    def test_a_small_count_ahead_of_the_last_step(self):
        table = [[1, 5], [1, 9]]
        for width in (1, 2):
            paper = hide(table, 1, width)
            self.assertEqual(paper[:2], ([(0, 0), (1, 0)], [(0, 1), (1, 1)]))
            one, other = ((0, 0), (1, [0], []), (1, [0], [])), ((1, 0), (1, [1], []), (1, [1], []))
            # With (0, 1) shown the first row has one hidden place left.
            self.reads(with_part(paper, (3, 0, 1), [one]), True, table, 1, width)
            self.reads(with_part(paper, (3, 0, 1), [one, other]), False, table, 1, width)
            ahead = ((1, 1), (9, [0, 1], [0]), (9, [0, 1], [0]))
            self.reads(with_part(paper, (3, 0, 1), [ahead, other]), True, table, 1, width)
            self.reads(with_part(paper, (3, 0, 1), [one, ahead, other]), False, table, 1, width)
            self.reads(with_part(paper, (3, 0, 1), [ahead, one, other]), False, table, 1, width)
            self.reads(with_part(paper, (3, 0, 1), [ahead]), False, table, 1, width)

    def test_more_hidden_than_is_asked_for(self):
        table = [[1, 2, 9], [2, 1, 9], [9, 9, 9]]
        self.reads(hide(table, 2, 3), True, table, 2, 3)
        choices = Choices(table)
        everything = choices.choice_of(places_of(table))
        self.assertTrue(choices.is_safe(everything, 3))
        others = [place for place in places_of(table) if place not in smalls(table, 2)]
        pairs = [(place,) + choices.pair_at(everything, place) for place in places_of(table)]
        step = ((0, 0), NOUGHT, (2, [0], []))
        for road in ([], [step], [((0, 0), NOUGHT, (12, [0], []))]):
            paper = (smalls(table, 2), others, pairs, [(place, road) for place in others])
            self.reads(paper, False, table, 2, 3)

    def test_no_small_count(self):
        for table in ([[0]], [[9]], [[0, 7], [8, 9]], [[4] * 8 for _ in range(8)]):
            for width in (1, 2, VAST):
                self.reads(EMPTY, True, table, 3, width)
                for at in range(4):
                    for wrong in ((), None, {}, "", [()], [(0, 0)], [None], 0, False, [[]]):
                        self.reads(with_part(EMPTY, (at,), wrong), False, table, 3, width)
        table = [[0, 7], [8, 9]]
        choices = Choices(table)
        pairs = [(place,) + choices.pair_at(15, place) for place in places_of(table)]
        for road in ([], [((0, 0), NOUGHT, NOUGHT)], [((0, 0), NOUGHT, (0, [0], [1]))]):
            paper = ([], places_of(table), pairs, [(place, road) for place in places_of(table)])
            self.reads(paper, False, table, 3, 2)

    def test_an_empty_paper_where_there_are_small_counts(self):
        for table in (SQUARE, [[1]], [[1, 1], [1, 1]]):
            self.reads(EMPTY, False, table, 3, 1)

    def test_huge_counts(self):
        table = [[VAST, 5 * VAST], [5 * VAST, 9 * VAST]]
        paper = hide(table, 3 * VAST, 6 * VAST)
        self.reads(paper, True, table, 3 * VAST, 6 * VAST)
        self.reads(paper, False, table, 3 * VAST, 6 * VAST + 1)
        more = copy.deepcopy(paper)
        more[2][0][1][0][0] += 1
        self.reads(more, False, table, 3 * VAST, 6 * VAST)
        place, low, high = paper[3][2][1][-1]
        for number in (low[0] + 1, low[0] - 1, float(low[0])):
            wrong = with_part(paper, (3, 2, 1, -1, 1, 0), number)
            self.reads(wrong, False, table, 3 * VAST, 6 * VAST)


class OtherRightPapers(Read):
    """Papers that another maker gives: other choices, tables, walls and roads."""

    tables = [
        [[1, 2, 9], [2, 5, 8], [9, 8, 7]], [[1, 0, 3], [4, 2, 9], [0, 6, 1]], [[1, 5], [5, 9], [3, 3]],
        [[3, 3, 3], [3, 1, 3], [3, 3, 3]], [[1, 4, 4], [4, 0, 4], [4, 4, 0]], [[0, 0, 1], [0, 1, 0], [1, 0, 0]],
        [[2, 7, 0], [6, 1, 5]], [[1, 6], [2, 9]], [[7, 1, 7], [0, 7, 7], [7, 7, 4]],
    ]

    def papers(self, seed, each=2):
        rng = random.Random(seed)
        for table in self.tables:
            choices = Choices(table)
            for bound, width in product((1, 2), (1, 2, 4, 7)):
                least = choices.least_ones(bound, width)
                for choice in rng.sample(least, min(each, len(least))):
                    yield table, bound, width, some_paper(choices, choice, bound, width, rng)

    def test_they_are_right(self):
        many = lengths = 0
        for table, bound, width, paper in self.papers(41, 3):
            self.reads(paper, True, table, bound, width)
            many += 1
            lengths = max([lengths] + [len(road) for _, road in paper[3]])
        self.assertGreater(many, 60)
        self.assertGreater(lengths, 2)

    def test_pairs_the_other_way_about(self):
        for table, bound, width, paper in self.papers(42, 1):
            turned = [(place, other, one) for place, one, other in paper[2]]
            self.reads(with_part(paper, (2,), turned), True, table, bound, width)

    def test_for_another_bound_or_width_or_table(self):
        found = []
        for table, bound, width, paper in self.papers(43, 1):
            for other_bound, other_width in product((1, 2, 3, 9), (1, 2, 3, 4, 5, 7, 8, HUGE)):
                found.append(self.agrees(paper, table, other_bound, other_width))
            for other in self.tables[:4]:
                found.append(self.agrees(paper, other, bound, width))
        self.assertGreater(found.count(True), 50)
        self.assertGreater(found.count(False), 500)

    def agrees(self, paper, table, bound, width):
        """The program tells of the paper what the words of the points tell of it."""
        right = is_paper(paper, table, bound, width)
        self.assertIs(holds(table, bound, width, paper), right, (table, bound, width, paper))
        return right

    def test_each_wall_that_could_stand_in_a_step(self):
        found = []
        for table, bound, width, paper in self.papers(44, 1):
            for way in self.ways_to_walls(paper)[:2]:
                hidden = self.hidden_at(paper, way)
                for wall in self.like_walls(veiled(table, hidden)):
                    found.append(self.agrees(with_part(paper, way, wall), table, bound, width))
        self.assertGreater(found.count(True), 100)
        self.assertGreater(found.count(False), 2000)

    def ways_to_walls(self, paper):
        return [
            (3, at, 1, step, part)
            for at, (_, road) in enumerate(paper[3]) for step in range(len(road)) for part in (1, 2)
        ]

    def hidden_at(self, paper, way):
        """The places that are hidden where the step's view is looked at."""
        place, road = paper[3][way[1]]
        shown = [place] + [step[0] for step in road[:way[3]]]
        return sorted(other for other in paper[0] + paper[1] if other not in shown)

    def like_walls(self, view):
        """Every choice of rows and columns with the number that is reckoned of it."""
        for rows in checking.subsets(len(view[0])):
            for columns in checking.subsets(len(view[0][0])):
                yield checking.reckoned(rows, columns, view), rows, columns

    def test_lines_that_are_none(self):
        """Numbers reckoned as the list's items would be, so that the lines alone are wrong."""
        for table, bound, width, paper in self.papers(45, 1):
            for way in self.ways_to_walls(paper)[:4]:
                number, rows, columns = part_of(paper, way)
                of_rows, of_columns = checking.left_in(veiled(table, self.hidden_at(paper, way)))
                if not rows:
                    continue
                wrong = [
                    (number + of_rows[-1], [-1] + rows, columns), (number - of_columns[-1], rows, [-1] + columns),
                    (number, rows + [len(table)], columns), (number, rows, columns + [len(table[0])]),
                    (number + of_rows[rows[-1]], rows + rows[-1:], columns), (number, rows + [VAST], columns),
                    (number + of_rows[rows[0]], rows[:1] + rows, columns),
                ]
                if columns:
                    wrong.append((number - of_columns[columns[0]], rows, columns[:1] + columns))
                if len(rows) > 1:
                    wrong.append((number, rows[::-1], columns))
                if len(columns) > 1:
                    wrong.append((number, rows, columns[::-1]))
                for wall in wrong:
                    self.reads(with_part(paper, way, wall), False, table, bound, width)

    def test_more_hidden_than_is_asked_for(self):
        rng = random.Random(46)
        many = 0
        for table in self.tables[:5]:
            choices = Choices(table)
            for bound, width in product((1, 2), (1, 3)):
                least = choices.least_ones(bound, width)
                for choice in choices.safe_ones(bound, width):
                    if choice not in least and rng.random() < 0.1:
                        many += 1
                        self.none_is_right(choices, choice, bound, width, rng)
        self.assertGreater(many, 10)

    def none_is_right(self, choices, choice, bound, width, rng):
        """With a safe choice that has a safe part, roads are wanting."""
        paper = some_paper(choices, choice, bound, width, rng)
        self.assertIn(None, [road for _, road in paper[3]])
        self.reads(paper, False, choices.table, bound, width)
        known = [road for _, road in paper[3] if road] or [[((0, 0), NOUGHT, NOUGHT)]]
        first, others, pairs, roads = paper
        for filler in (known[0], known[-1], []):
            made = [(place, road if road else filler) for place, road in roads]
            self.reads((first, others, pairs, made), False, choices.table, bound, width)

    def test_places_that_are_not_safe(self):
        rng = random.Random(47)
        for table in self.tables[:5]:
            choices = Choices(table)
            for bound, width in ((1, 2), (2, 4), (1, 7)):
                small = choices.choice_of(smalls(table, bound))
                fit = [one for one in range(choices.many) if one & small == small]
                fit = [one for one in fit if not choices.is_safe(one, width)]
                for choice in rng.sample(fit, min(6, len(fit))):
                    paper = some_paper(choices, choice, bound, width, rng)
                    self.reads(paper, False, table, bound, width)

    def test_other_roads(self):
        rng = random.Random(48)
        for table, bound, width, paper in self.papers(48, 1):
            for at, (place, road) in enumerate(paper[3]):
                hidden = [other for other in sorted(paper[0] + paper[1]) if other != place]
                other = some_road(table, bound, width, hidden, rng)
                self.reads(with_part(paper, (3, at, 1), other), True, table, bound, width)
                if len(other) > 1:
                    for wrong in (other[:-1], other + other[-1:], other[:1] + other, other[::-1]):
                        self.reads(with_part(paper, (3, at, 1), wrong), False, table, bound, width)


class EachThingChanged(Read):
    def some(self):
        """A few papers, small enough to change each thing in them."""
        yield SQUARE, 3, 6, PAPER
        yield SQUARE, 3, 2, hide(SQUARE, 3, 2)
        rng = random.Random(51)
        for table, bound, width in (
            ([[1, 2, 9], [2, 5, 8], [9, 8, 7]], 1, 4), ([[1, 5], [1, 9]], 1, 2), ([[1, 6], [2, 9], [0, 3]], 1, 2),
            ([[1, 0, 3], [4, 2, 9], [0, 6, 1]], 2, 2),
        ):
            choices = Choices(table)
            least = choices.least_ones(bound, width)
            yield table, bound, width, some_paper(choices, rng.choice(least), bound, width, rng)

    def spread(self, things, most):
        """The things, or so many of them where they are more."""
        things = list(things)
        return things if len(things) <= most else random.Random(53).sample(things, most)

    def test_each_part_of_another_kind(self):
        for table, bound, width, paper in self.some():
            self.reads(paper, True, table, bound, width)
            for wrong in self.spread(each_changed(paper, other_kinds), 2500):
                self.assertIs(holds(table, bound, width, wrong), False, wrong)
            self.reads(paper, True, table, bound, width)

    def test_each_part_of_another_worth(self):
        for table, bound, width, paper in self.some():
            found = []
            for other in self.spread(each_changed(paper, other_worths), 1500):
                right = is_paper(other, table, bound, width)
                self.assertIs(holds(table, bound, width, other), right, (table, bound, width, other))
                found.append(right)
            self.assertIn(True, found)
            self.assertGreater(found.count(False), 100)

    def test_each_number_in_the_papers_of_large_tables(self):
        """A number more or less by one is never right, save the lines of a wall that may be told otherwise."""
        table = [[(5 * at + 3 * across) % 23 for across in range(8)] for at in range(8)]
        paper = hide(table, 2, 9)
        self.assertIs(holds(table, 2, 9, paper), True)
        rng = random.Random(52)
        for _ in range(150):
            at = rng.randrange(len(paper[2]))
            row, across = rng.randrange(8), rng.randrange(8)
            way = (2, at, rng.choice((1, 2)), row, across)
            wrong = with_part(paper, way, part_of(paper, way) + rng.choice((1, -1)))
            self.reads(wrong, False, table, 2, 9)
        for _ in range(100):
            at = rng.randrange(len(paper[3]))
            way = (3, at, 1, rng.randrange(len(paper[3][at][1])), rng.choice((1, 2)), 0)
            wrong = with_part(paper, way, part_of(paper, way) + rng.choice((1, -1)))
            self.reads(wrong, False, table, 2, 9)


class WhateverThing(Read):
    def test_what_is_no_paper(self):
        things = STRANGE + [7, (), [], (None,) * 4, ([],) * 3, ([],) * 5, [[], [], [], []], {0: [], 1: [], 2: [], 3: []},
                            ([()],) * 4, ((),) * 4, ({},) * 4, ("",) * 4, (0, 0, 0, 0), recursive_list(),
                            (recursive_list(),) * 4, list(PAPER), PAPER[:3], PAPER + ([],), (PAPER,), [PAPER],
                            PAPER[::-1], ([None],) * 4, ([[]],) * 4, ([recursive_list()],) * 4, "([], [], [], [])"]
        for table, bound, width in ((SQUARE, 3, 6), ([[9]], 3, 2), ([[1]], 3, 2), (EIGHT, 2, 3)):
            for thing in things:
                self.assertIs(holds(table, bound, width, thing), False, repr(thing))

    def test_in_the_place_of_each_part(self):
        things = STRANGE + [[], (), [None], ((),), [[[]]], recursive_list(), [recursive_list()], (0, 0), [(0, 0)],
                            [((0, 0), LEAST)], [((0, 0), None, None)], [((0, 0), [])], [(None, None)], [({}, {}, {})]]
        for at in range(4):
            for thing in things:
                wrong = with_part(PAPER, (at,), thing)
                if wrong != PAPER:
                    self.assertIs(holds(SQUARE, 3, 6, wrong), False, repr(wrong))
        ways = [(0, 0), (1, 0), (2, 0), (2, 0, 0), (2, 0, 1), (2, 0, 1, 0), (2, 0, 1, 0, 0), (3, 0), (3, 0, 0), (3, 0, 1),
                (3, 0, 1, 0), (3, 0, 1, 0, 0), (3, 0, 1, 0, 1), (3, 0, 1, 0, 2), (3, 0, 1, 0, 1, 0),
                (3, 0, 1, 0, 1, 1), (3, 0, 1, 0, 2, 2), (3, 0, 1, 0, 2, 1, 0), (3, 0, 0, 1), (2, 0, 0, 1)]
        for way in ways:
            for thing in STRANGE + [[], (), [[]], ((),), recursive_list(), -1, VAST, {"a": []}]:
                if type(thing) is not type(part_of(PAPER, way)) or thing != part_of(PAPER, way):
                    self.assertIs(holds(SQUARE, 3, 6, with_part(PAPER, way, thing)), False, (way, repr(thing)))

    def test_things_nested_deeply(self):
        ways = [(), (0,), (0, 0), (1,), (1, 0), (2,), (2, 0), (2, 0, 0), (2, 0, 1), (2, 0, 1, 0), (2, 0, 1, 0, 0), (3,),
                (3, 0), (3, 0, 0), (3, 0, 1), (3, 0, 1, 0), (3, 0, 1, 0, 0), (3, 0, 1, 0, 1), (3, 0, 1, 0, 1, 0),
                (3, 0, 1, 0, 1, 1), (3, 0, 1, 0, 1, 2), (3, 0, 1, 0, 2), (3, 0, 1, 0, 2, 1, 0)]
        for way in ways:
            for thing in (nested(50000), nested_tuple(50000)):
                self.assertIs(holds(SQUARE, 3, 6, with_part(PAPER, way, thing)), False)

    def test_a_very_long_paper(self):
        for at in range(4):
            self.assertIs(holds(SQUARE, 3, 6, with_part(PAPER, (at,), PAPER[at] * 1000)), False)
        road = [((0, 0), ONE_LEFT, ONE_LEFT)] * 2000
        self.assertIs(holds(SQUARE, 3, 6, with_road(road)), False)

    def test_one_list_in_several_parts(self):
        """No word of the points forbids it: only what the program gives has each list once."""
        self.reads(PAPER, True)
        step = ((0, 0), ONE_LEFT, ONE_LEFT)
        self.reads(with_road([step]), True)


class EachHidden(Judge):
    def test_the_papers_of_hide(self):
        rng = random.Random(61)
        for _ in range(25):
            height, width = rng.randint(2, 8), rng.randint(2, 8)
            table = [[rng.choice((0, 1, 2, 5, 9, 30)) for _ in range(width)] for _ in range(height)]
            for bound, gap in ((1, 1), (2, 4), (5, 12)):
                if self.hides(table, bound, gap):
                    paper = hide(table, bound, gap)
                    turned = [(place, other, one) for place, one, other in paper[2]]
                    self.assertIs(holds(table, bound, gap, with_part(paper, (2,), turned)), True)
                    self.spoilt(table, bound, gap, paper)

    def spoilt(self, table, bound, gap, paper):
        """Each list of the paper with a thing left out, twice, in another order."""
        for at in range(4):
            for wrong in (paper[at][1:], paper[at][:-1], paper[at] + paper[at][-1:], paper[at][::-1]):
                if wrong != paper[at]:
                    self.assertIs(holds(table, bound, gap, with_part(paper, (at,), wrong)), False)
        for at, (place, road) in enumerate(paper[3]):
            for wrong in (road[:-1], road + road[-1:], road[:1] + road, []):
                self.assertIs(holds(table, bound, gap, with_part(paper, (3, at, 1), wrong)), False)

    def test_where_hide_refuses(self):
        for table, width in (([[1]], 1), ([[1, 5]], 1), (SQUARE, 7), ([[1, 0], [0, 0]], 1), (EIGHT, 10 ** 4)):
            self.refuses(NotHidden, hide, table, 3, width)
            for paper in (PAPER, EMPTY, None, [], hide([[1, 2], [3, 9]], 3, 1), (smalls(table, 3), [], [], [])):
                self.assertIs(holds(table, 3, width, paper), False)
            first = smalls(table, 3)
            others = [place for place in places_of(table) if place not in first]
            pairs = [(place, table, table) for place in places_of(table)]
            road = self.told(hide, table, 3, width).road
            self.assertIs(holds(table, 3, width, (first, others, pairs, [(place, road) for place in others])), False)
            self.assertIs(holds(table, 3, width, (first, [], pairs[:len(first)], [])), False)


class Refusals(Case):
    def test_what_is_no_table(self):
        for thing in no_tables():
            for paper in (PAPER, EMPTY, None):
                self.refuses(BadTable, holds, thing, 3, 6, paper)

    def test_what_is_no_bound_and_no_width(self):
        for thing in no_numbers():
            for paper in (PAPER, EMPTY, None, []):
                self.refuses(BadNumber, holds, SQUARE, thing, 6, paper)
                self.refuses(BadNumber, holds, SQUARE, 3, thing, paper)
                self.refuses(BadNumber, holds, [[9]], 3, thing, paper)
                self.refuses(BadNumber, holds, [[1]], 3, thing, paper)

    def test_which_comes_first(self):
        for table in STRANGE + [[], [[True]], [[-1]], [[1], []]]:
            for bound, width, paper in ((0, 3, PAPER), (3, 0, None), (None, None, []), (3, 3, EMPTY)):
                self.refuses(BadTable, holds, table, bound, width, paper)
        for bound, width in ((0, 3), (3, 0), (0, 0), (None, 7), ([], True), (1.0, 1.0)):
            for paper in (PAPER, None, 5, EMPTY):
                self.refuses(BadNumber, holds, SQUARE, bound, width, paper)

    def test_its_parameters(self):
        self.takes(holds, ("table", "bound", "width", "paper"))


class Own(Case):
    def test_nothing_handed_in_is_changed_or_kept(self):
        self.is_own(holds, copy.deepcopy(SQUARE), 3, 6, copy.deepcopy(PAPER))
        self.is_own(holds, copy.deepcopy(SQUARE), 3, 7, copy.deepcopy(PAPER))
        for thing in (None, [], EMPTY, (([(0, 0)],) * 4), with_part(PAPER, (3, 0, 1), [[]])):
            self.is_own(holds, copy.deepcopy(SQUARE), 3, 6, copy.deepcopy(thing))

    def test_a_changed_paper_or_table_is_read_anew(self):
        table, paper = copy.deepcopy(SQUARE), copy.deepcopy(PAPER)
        self.assertIs(holds(table, 3, 6, paper), True)
        paper[3][2][1][0][1][1].append(1)
        self.assertIs(holds(table, 3, 6, paper), False)
        paper[3][2][1][0][1][1].pop()
        self.assertIs(holds(table, 3, 6, paper), True)
        table[1][1] = 8
        self.assertIs(holds(table, 3, 6, paper), False)
        table[1][1] = 9
        self.assertIs(holds(table, 3, 6, paper), True)
        spoil(paper)
        self.assertIs(holds(table, 3, 6, paper), False)
        self.assertIs(holds(table, 3, 6, PAPER), True)

    def test_walls_are_looked_at_by_the_same_words(self):
        view = veiled(SQUARE, [(0, 0), (0, 1), (1, 0)])
        self.assertTrue(is_low(ONE_LEFT, view, (0, 0)) and is_high(ONE_LEFT, view, (0, 0)))
        self.assertFalse(is_high(NOUGHT, view, (0, 0)))
