"""The search for a gauge: the tables that are asked for it, and what their answers make."""

from loopgauge.sums import columns, with_one
from loopgauge.tables import solved


def turned_about(numbers):
    """The numbers, plus for minus."""
    return [-number for number in numbers]


def never_or_point(way, many):
    """("never", weights) of a way that may be gone nowhere, ("point", point) of another one."""
    asks, _ = way
    # The row that is worth 1 makes room: the asks alone may come to any number
    # below 0. It is also a place for a way of no asks.
    lines = columns(with_one(asks, many), many)
    answer = solved(lines, [0] * many + [-1], 0)
    if answer[0] == "answer":
        return ("never", answer[1][:-1])
    return ("point", turned_about(answer[1]))


def lengths(ways, many):
    """How many places of the table are the gauge's row, and for each way ahead and along."""
    found = [many + 1]
    for asks, _ in ways:
        found += [len(asks) + 1, len(asks) + 1]
    return found


def gauge_lines(ways, many):
    """The lines of the table of a gauge whose fall is to be 1.

    Its places are the numbers of the gauge's row, which are free, and for each
    way the weights of ahead and those of along. Its lines are, for each way, at
    each place of a row: what ahead has there, less the gauge; then what along
    has there, less the gauge, and with the gauge behind the way.
    """
    width = sum(lengths(ways, many))
    lines, before = [], 0
    for asks, gives in ways:
        block = columns(with_one(asks, many), many)
        nothing = [[0] * (many + 1)] * (many + 1)
        behind = columns(with_one(gives, many), many)
        for front in (nothing, behind):
            for at in range(many + 1):
                line = front[at] + [0] * before + block[at]
                line[at] -= 1
                lines.append(line + [0] * (width - len(line)))
            before += len(asks) + 1
    return lines


def gauge_wanted(ways, many):
    """What is wanted of those lines: noughts, and -1 at the last place of along."""
    return ([0] * (2 * many + 1) + [-1]) * len(ways)


def cut(numbers, long):
    """The numbers in pieces, each so long."""
    pieces, start = [], 0
    for length in long:
        pieces.append(numbers[start:start + length])
        start += length
    return pieces


def reason_of(parts, pieces):
    """The reason: what shows that a way is never gone, or the next two pieces."""
    reason, at = [], 0
    for kind, numbers in parts:
        if kind == "never":
            reason.append((kind, numbers))
        else:
            reason.append(("falls", pieces[at], pieces[at + 1]))
            at += 2
    return reason


def spots_of(parts, pieces):
    """The spots: None for a way that is never gone, or its point and the next two pieces."""
    spots, at = [], 0
    for kind, numbers in parts:
        if kind == "never":
            spots.append(None)
        else:
            spots.append((numbers, pieces[at], pieces[at + 1]))
            at += 2
    return spots


def gauge_or_spots(many, ways):
    """("gauge", gauge, reason) or ("none", spots), right ones."""
    parts = [never_or_point(way, many) for way in ways]
    gone = [way for way, part in zip(ways, parts) if part[0] == "point"]
    if not gone:
        # No lines make no table, but any gauge is right: this one tells no turn.
        return ("gauge", ([0] * many + [-1], 1), reason_of(parts, []))
    answer = solved(gauge_lines(gone, many), gauge_wanted(gone, many), many + 1)
    if answer[0] == "weights":
        pieces = cut(turned_about(answer[1]), [many + 1] * (2 * len(gone)))
        return ("none", spots_of(parts, pieces))
    pieces = cut(answer[1], lengths(gone, many))
    return ("gauge", (pieces[0], answer[2]), reason_of(parts, pieces[1:]))
