"""Hiding the small counts of a table and others beside them, safe together.

While the choice is made a dict holds each hidden place, and for it a pair of tables that shows that
it is not given away, or None where none has been found yet.
"""

from veiled.bounds import is_narrow, walls_from
from veiled.errors import NotHidden
from veiled.shifting import parted
from veiled.tables import need_number, small_places


def _veil(table, pairs):
    """The veil of the places that are hidden now."""
    return [
        [(at, across) in pairs for across in range(len(row))] for at, row in enumerate(table)
    ]


def _narrow_place(table, width, pairs):
    """A place that is given away, or None; the pairs that are found on the way are kept."""
    veil = _veil(table, pairs)
    for place in list(pairs):
        if pairs[place] is None:
            pair = parted(table, veil, place, width)
            if is_narrow(pair, place, width):
                return place
            pairs[place] = pair
    return None


def _shown(table, pairs, place):
    """What is left when the place is shown: a pair that has another count there shows no more."""
    row, column = place
    left = {}
    for other, pair in pairs.items():
        if other != place:
            stays = pair is not None and all([one[row][column] == table[row][column] for one in pair])
            left[other] = pair if stays else None
    return left


def _worn(table, small, width, pairs):
    """Shows one place after another that is given away: what is left, and the road.

    Nothing is left, None, where a small count is given away: then the road ends with it. For a place
    that is given away stays so, whatever else is shown besides.
    """
    road = []
    place = _narrow_place(table, width, pairs)
    while place is not None:
        low, high = walls_from(table, _veil(table, pairs), place)
        road.append((place, low, high))
        if place in small:
            return (None, road)
        pairs = _shown(table, pairs, place)
        place = _narrow_place(table, width, pairs)
    return (pairs, road)


def _fewest(table, small, width):
    """The pairs of small counts and others of which none can be shown again."""
    places = [(at, across) for at in range(len(table)) for across in range(len(table[0]))]
    others = [place for place in places if place not in small]
    # The small ones come first, so that a road ends as soon as one of them is given away.
    pairs, road = _worn(table, small, width, {place: None for place in small + others})
    if pairs is None:
        raise NotHidden(road)
    for place in others:
        if place in pairs:
            fewer, _ = _worn(table, small, width, _shown(table, pairs, place))
            if fewer is not None:
                pairs = fewer
    return pairs


def _road(table, small, width, pairs, place):
    """The road from all hidden places but the one, which none of the others can do without."""
    _, road = _worn(table, small, width, _shown(table, pairs, place))
    return road


def hide(table, bound, width):
    """A paper: the small counts, others that are hidden too, pairs of tables, roads."""
    small = small_places(table, bound)
    need_number(width)
    if not small:
        return ([], [], [], [])
    pairs = _fewest(table, small, width)
    hidden = sorted(pairs)
    others = [place for place in hidden if place not in small]
    return (
        small,
        others,
        [(place,) + pairs[place] for place in hidden],
        [(place, _road(table, small, width, pairs, place)) for place in others],
    )
