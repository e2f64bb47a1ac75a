"""What several tests need: wrong things, ways to put them somewhere, and the document's sums.

The sums of points 5 to 8 are worked out here from the document, without the
program, so that what the program tells can be held against them.
"""

from copy import deepcopy


class Hostile:
    """Whatever it is asked, it fails."""

    @property
    def __class__(self):
        raise RuntimeError("asked")

    def __eq__(self, other):
        raise RuntimeError("asked")

    def __bool__(self):
        raise RuntimeError("asked")

    def __len__(self):
        raise RuntimeError("asked")

    def __iter__(self):
        raise RuntimeError("asked")

    def __index__(self):
        raise RuntimeError("asked")

    def __le__(self, other):
        raise RuntimeError("asked")

    def __ge__(self, other):
        raise RuntimeError("asked")

    def __repr__(self):
        raise RuntimeError("asked")


class HostileList(list):
    """A list that fails when it is measured or walked."""

    def __len__(self):
        raise RuntimeError("asked")

    def __iter__(self):
        raise RuntimeError("asked")


def holds_itself():
    """A list that holds itself."""
    held = []
    held.append(held)
    return held


# None of these is a number, a list or a tuple that may stand anywhere.
FOREIGN = (
    True, False, None, "", "text", "1", "never", b"1", 1.0, 0.5, 1j, {}, {0: 1}, set(), frozenset(), (),
    range(2), int, Hostile(), HostileList(), holds_itself(),
)

# None of these is a loop, or stands anywhere in one.
NOWHERE = FOREIGN + (-1001, 1001, 10 ** 5000)


def largest():
    """A loop of as much as there may be of everything."""
    row = [1000, -1000, 0, 1]
    return (3, [([list(row) for _ in range(4)], [list(row) for _ in range(3)]) for _ in range(3)])


def places(thing, path=()):
    """The paths to a thing and to everything in it."""
    yield path
    if isinstance(thing, (list, tuple)):
        for at, part in enumerate(thing):
            yield from places(part, path + (at,))


def found(thing, path):
    """What stands at a path of a thing."""
    for at in path:
        thing = thing[at]
    return thing


def exchanged(thing, path, other):
    """A copy of a thing with another one at a path."""
    if not path:
        return other
    at, behind = path[0], path[1:]
    parts = [exchanged(part, behind, other) if k == at else deepcopy(part) for k, part in enumerate(thing)]
    return tuple(parts) if isinstance(thing, tuple) else parts


def numbers_in(thing):
    """The paths to all whole numbers in a thing."""
    return [path for path in places(thing) if type(found(thing, path)) is int]


def lists_in(thing):
    """All lists in a thing, each as often as it stands there."""
    return [found(thing, path) for path in places(thing) if isinstance(found(thing, path), list)]


def spoil(thing):
    """Change every list in a thing."""
    for part in lists_in(thing):
        part.reverse()
        part[:] = [77 if type(item) is int else item for item in part]
        part.append(99)


def worth(row, state):
    """The worth of a row at a state, by point 2."""
    total = row[len(state)]
    for at in range(len(state)):
        total += row[at] * state[at]
    return total


def may_be_gone(way, state):
    """Whether a way may be gone at a state, by point 3."""
    return min([worth(ask, state) for ask in way[0]], default=0) >= 0


def behind(way, state):
    """Where a way leads from a state, by point 3."""
    return [worth(row, state) for row in way[1]]


def corners(many):
    """States at which two sums are worth the same only if they are the same sum."""
    return [[0] * many] + [[int(at == k) for at in range(many)] for k in range(many)]


def reason_is_right(loop, gauge, reason):
    """Whether a gauge and a reason, both of the right kinds and lengths, are right by points 5 and 6."""
    many, ways = loop
    row, by = gauge
    if len(reason) != len(ways) or by < 1:
        return False
    for way, part in zip(ways, reason):
        for weights in part[1:]:
            if min(weights, default=0) < 0 or len(weights) != len(way[0]) + (part[0] == "falls"):
                return False

        def summed(weights, state):
            total = sum(worth(ask, state) * weight for ask, weight in zip(way[0], weights))
            return total + (weights[-1] if part[0] == "falls" else 0)

        if part[0] == "never":
            told = [summed(part[1], state) for state in corners(many)]
            if told[0] >= 0 or len(set(told)) != 1:
                return False
            continue
        for state in corners(many):
            here, there = worth(row, state), worth(row, behind(way, state))
            if summed(part[1], state) != here or summed(part[2], state) != here - there - by:
                return False
    return True


def spots_are_right(loop, spots):
    """Whether spots, of the right kinds and lengths, are right by points 7 and 8."""
    many, ways = loop
    total, falls = [0] * (many + 1), 0

    def spot_worth(row, spot):
        return worth(row, spot[:many]) + row[many] * (spot[many] - 1)

    for way, part in zip(ways, spots):
        if part is None:
            continue
        for spot in part:
            if spot[many] < 0 or any(spot_worth(ask, spot) < 0 for ask in way[0]):
                return False
        point, near, far = part
        if point[many] < 1:
            return False
        led = [spot_worth(row, far) for row in way[1]] + [far[many]]
        for at in range(many + 1):
            total[at] += near[at] + far[at] - led[at]
        falls += far[many]
    return total == [0] * (many + 1) and falls > 0 and len(spots) == len(ways)


def drawn_number(chance, big):
    """A whole number from -big to big, nought and the ends more often."""
    return chance.choice([0, 0, 1, -1, big, -big, chance.randint(-big, big), chance.randint(-big, big)])


def drawn_loop(chance, many, ways, big):
    """A loop of so many names and ways; about half of the ways only add to the names."""
    made = []
    for _ in range(ways):
        asks = [[drawn_number(chance, big) for _ in range(many + 1)] for _ in range(chance.randint(0, 4))]
        if chance.random() < 0.5:
            gives = [[int(at == k) for at in range(many)] + [drawn_number(chance, 3)] for k in range(many)]
        else:
            gives = [[drawn_number(chance, big) for _ in range(many + 1)] for _ in range(many)]
        made.append((asks, gives))
    return (many, made)
