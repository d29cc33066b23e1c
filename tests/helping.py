"""What the tests share: things of every wrong kind, and the checks that many of them make."""

import copy
import unittest

from veiled import errors

HUGE = 10 ** 18 + 7
VAST = 10 ** 60 + 3

REFUSALS = (
    errors.BadTable,
    errors.BadView,
    errors.BadPlace,
    errors.BadNumber,
    errors.NoTable,
    errors.NotHidden,
)

# Things that are neither a list, nor a tuple, nor a whole number from 1 on.
STRANGE = [
    None, True, False, 0, -1, -VAST, 1.0, 2.5, float("nan"), 1j, "", "1", "[[1]]", b"", b"1",
    {}, {0: [1]}, {(0, 0): 1}, set(), {1}, frozenset(), object(), int, len, range(2), iter([[1]]),
    ValueError("1"),
]

# Things that are no whole number from 0 on, the kinds that are easily taken for one first.
NO_COUNT = [True, False, -1, -VAST, 1.0, 0.0, "1", "", b"1", [], [1], (), (1,), {}, {1: 1}, object()]

# Lists, tuples and numbers that are no table.
ALMOST_TABLES = [
    1, 7, VAST, [], [[]], [[], []], (), ((1,),), ([1],), [(1,)], [[1], (1,)], [1, 2], [[[1]]],
    [[1], [1, 2]], [[1, 2], [1]], [[1, 2], [3, 4], []], [[], [1]],
    [[1] for _ in range(9)], [list(range(9))], [[0] * 9 for _ in range(9)], [[1] * 1000],
]


def recursive_list():
    """A list that holds itself."""
    thing = []
    thing.append(thing)
    return thing


def with_each(parts, wrong):
    """New lists like the one, with each wrong thing in the place of each of its parts."""
    return [parts[:at] + [thing] + parts[at + 1:] for at in range(len(parts)) for thing in wrong]


def no_tables():
    """What is no table: of every kind, with a wrong row, with a wrong count."""
    row_kinds = STRANGE + [5, (1, 2), ((1, 2),), [1], [1, 2, 3], []]
    rows_wrong = with_each([[1, 2], [3, 4]], row_kinds)
    counts_wrong = [[[1, 2], row] for row in with_each([3, 4], NO_COUNT + [None])]
    return STRANGE + ALMOST_TABLES + rows_wrong + counts_wrong + [recursive_list()]


def no_numbers():
    """What is neither a bound nor a width."""
    return STRANGE + [[], [1], (), (1,), [[1]]]


def lists_in(thing):
    """Each list of the thing, as often as it stands there, in lists, tuples and dicts."""
    if isinstance(thing, dict):
        return lists_in(list(thing.values()))
    if not isinstance(thing, (list, tuple)):
        return []
    found = [thing] if isinstance(thing, list) else []
    for part in thing:
        found.extend(lists_in(part))
    return found


def spoil(thing):
    """Changes each list of the thing."""
    for one in lists_in(thing):
        one.append("spoilt")
        one.reverse()


class Case(unittest.TestCase):
    def refuses(self, kind, call, *handed):
        """The call is refused so, and each class above the refusal catches it, no other one."""
        for caught in (kind, errors.VeilError, ValueError):
            with self.assertRaises(caught, msg=repr(handed)) as held:
                call(*handed)
            self.assertIs(type(held.exception), kind, repr(handed))
        for other in REFUSALS:
            if other is not kind:
                self.assertNotIsInstance(held.exception, other)

    def is_new(self, answer, handed=()):
        """No list stands in the answer twice, and none that was handed in."""
        marks = [id(one) for one in lists_in(answer)]
        self.assertEqual(len(marks), len(set(marks)), answer)
        for one in lists_in(list(handed)):
            self.assertNotIn(id(one), marks)

    def is_own(self, call, *handed):
        """The answer is new, nothing handed in is changed, and neither spoils the other later."""
        before = copy.deepcopy(handed)
        answer = call(*handed)
        self.assertEqual(handed, before)
        self.is_new(answer, handed)
        told = copy.deepcopy(answer)
        again = call(*handed)
        self.assertEqual(again, told)
        self.is_new([answer, again], handed)
        spoil(again)
        self.assertEqual(answer, told)
        self.assertEqual(handed, before)
        self.assertEqual(call(*handed), told)
        spoil(handed)
        self.assertEqual(answer, told)
        self.assertEqual(call(*before), told)

    def takes(self, call, names):
        """The function's parameters are called so."""
        code = call.__code__
        self.assertEqual(code.co_varnames[:code.co_argcount], names)
