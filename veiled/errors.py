"""The refusals of the package, all of them under VeilError."""


class VeilError(ValueError):
    """Any refusal."""


class BadTable(VeilError):
    """What was handed in as a table is none."""


class BadView(VeilError):
    """What was handed in as a view is none."""


class BadPlace(VeilError):
    """What was handed in as a place, or as a list of places, is none."""


class BadNumber(VeilError):
    """What was handed in as a bound or as a width is none."""


class NoTable(VeilError):
    """No table has the view: the numbers of rows and columns in the fields show it."""

    def __init__(self, rows, columns):
        # Without this call the lists that are handed in would be kept as the error's words.
        super().__init__("no table has the view")
        self.rows = _copied(rows)
        self.columns = _copied(columns)


class NotHidden(VeilError):
    """The small counts can't be hidden safely, whatever else is hidden: the road shows it."""

    def __init__(self, road):
        # Without this call the road that is handed in would be kept as the error's words.
        super().__init__("the small counts can't be hidden safely, whatever else is hidden")
        self.road = _copied(road)


def _copied(thing):
    """The same thing with new lists in it, so that nothing that was handed in is kept."""
    if isinstance(thing, list):
        return [_copied(part) for part in thing]
    if isinstance(thing, tuple):
        return tuple([_copied(part) for part in thing])
    return thing
