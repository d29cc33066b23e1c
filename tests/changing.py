"""Things like a paper in which one part is changed: to another kind, or to another worth."""


def each_changed(thing, changes):
    """Every thing like it in which one part, at any depth, is changed so."""
    yield from changes(thing)
    if isinstance(thing, (list, tuple)):
        for at, part in enumerate(thing):
            for other in each_changed(part, changes):
                parts = list(thing)
                parts[at] = other
                yield parts if isinstance(thing, list) else tuple(parts)


def other_kinds(thing):
    """What stands for the part, but is of another kind."""
    if isinstance(thing, int):
        yield from (None, str(thing), [thing], (thing,), {thing: thing}, float(thing))
        if thing in (0, 1):
            yield bool(thing)
    if isinstance(thing, list):
        yield from (tuple(thing), dict(enumerate(thing)), None, "", len(thing), True, False)
    if isinstance(thing, tuple):
        yield from (list(thing), dict(enumerate(thing)), None, "", 0, True, False, (), [])


def other_worths(thing):
    """What is of the kind, but another one of it."""
    if isinstance(thing, int):
        yield from (thing + 1, thing - 1, -1 - thing)
    if isinstance(thing, (list, tuple)):
        kind = list if isinstance(thing, list) else tuple
        parts = list(thing)
        for at in range(len(parts)):
            yield kind(parts[:at] + parts[at + 1:])
            yield kind(parts[:at + 1] + parts[at:])
            yield kind(parts + [parts[at]])
            yield kind(parts[:at] + parts[at:][::-1])
        for extra in (-1, 0, 1, 2, 3, [], (0, 0), (2, 2)):
            yield kind(parts + [extra])
            yield kind([extra] + parts)


def with_part(thing, way, part):
    """The thing with another part in it, at the end of the way of indexes."""
    if not way:
        return part
    parts = list(thing)
    parts[way[0]] = with_part(parts[way[0]], way[1:], part)
    return parts if isinstance(thing, list) else tuple(parts)


def part_of(thing, way):
    for at in way:
        thing = thing[at]
    return thing


def nested(many):
    """A list in a list in a list, so many times."""
    thing = []
    for _ in range(many):
        thing = [thing]
    return thing


def nested_tuple(many):
    thing = ()
    for _ in range(many):
        thing = (thing,)
    return thing
