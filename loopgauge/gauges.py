"""Gauges: sums that fall with each turn, the reasons for them, and spots where there is none."""

from loopgauge.errors import BadGauge
from loopgauge.loops import are_wholes, is_list_of, is_pair, is_whole, need_loop, need_state, worth
from loopgauge.search import gauge_or_spots
from loopgauge.sums import columns, product_sum, weighed, with_one


def is_gauge(thing, many):
    """Whether a thing is a gauge for so many names, right or not."""
    if not is_pair(thing):
        return False
    row, by = thing
    return are_wholes(row, many + 1) and is_whole(by) and by >= 1


def need_gauge(thing, many):
    """Refuse what is no gauge for so many names."""
    if not is_gauge(thing, many):
        raise BadGauge("this is no gauge for so many names")


def is_word(thing, word):
    """Whether a thing is a word."""
    return type(thing) is str and thing == word


def is_triple(thing):
    """Whether a thing is a tuple of three things."""
    return type(thing) is tuple and len(thing) == 3


def are_weights(thing, length):
    """Whether a thing is a list of so many whole numbers from 0 on."""
    return are_wholes(thing, length) and all(number >= 0 for number in thing)


def is_never(thing, way, many):
    """Whether a thing is a right reason that a way may be gone nowhere."""
    asks, _ = way
    if not is_pair(thing) or not is_word(thing[0], "never") or not are_weights(thing[1], len(asks)):
        return False
    numbers = weighed(asks, thing[1], many)
    return numbers[:-1] == [0] * many and numbers[-1] < 0


def fall(gauge, gives, many):
    """The row of the fall of a gauge along a way, less by."""
    row, by = gauge
    behind = weighed(with_one(gives, many), row, many)
    numbers = [here - there for here, there in zip(row, behind)]
    numbers[-1] -= by
    return numbers


def is_falls(thing, way, gauge, many):
    """Whether a thing is a right reason that a gauge falls along a way."""
    if not is_triple(thing) or not is_word(thing[0], "falls"):
        return False
    asks, gives = way
    row, _ = gauge
    _, ahead, along = thing
    rows = with_one(asks, many)
    if not are_weights(ahead, len(rows)) or not are_weights(along, len(rows)):
        return False
    return weighed(rows, ahead, many) == row and weighed(rows, along, many) == fall(gauge, gives, many)


def is_spot(thing, way, many):
    """Whether a thing is a spot of a way."""
    asks, _ = way
    if not are_wholes(thing, many + 1) or thing[-1] < 0:
        return False
    return all(product_sum(ask, thing) >= 0 for ask in asks)


def are_spots_of(thing, way, many):
    """Whether a thing is a tuple of a point, a near and a far of a way, or None."""
    if thing is None:
        return True
    if not is_triple(thing) or not all(is_spot(spot, way, many) for spot in thing):
        return False
    return thing[0][-1] >= 1


def shift(part, way, many):
    """What near and far have at each place, less what is there of that to which far leads."""
    _, gives = way
    _, near, far = part
    led = [product_sum(row, far) for row in with_one(gives, many)]
    return [here + ahead - behind for here, ahead, behind in zip(near, far, led)]


def told(loop):
    """A gauge of a loop and a reason, or spots where it has none."""
    need_loop(loop)
    many, ways = loop
    return gauge_or_spots(many, ways)


def is_reason(loop, gauge, reason):
    """Whether these are a gauge and a reason that are right for a loop."""
    need_loop(loop)
    many, ways = loop
    if not is_gauge(gauge, many) or not is_list_of(reason, len(ways), len(ways)):
        return False
    for part, way in zip(reason, ways):
        if not is_never(part, way, many) and not is_falls(part, way, gauge, many):
            return False
    return True


def are_spots(loop, spots):
    """Whether these are spots that show that a loop has no gauge that is right."""
    need_loop(loop)
    many, ways = loop
    if not is_list_of(spots, len(ways), len(ways)):
        return False
    if not all(are_spots_of(part, way, many) for part, way in zip(spots, ways)):
        return False
    shown = [(part, way) for part, way in zip(spots, ways) if part is not None]
    shifts = [shift(part, way, many) for part, way in shown]
    if any(sum(column) != 0 for column in columns(shifts, many)):
        return False
    return sum(part[2][-1] for part, way in shown) > 0


def most_turns(loop, gauge, state):
    """How many turns a gauge, if it is right, lets a run take from a state."""
    need_loop(loop)
    many, _ = loop
    need_gauge(gauge, many)
    need_state(state, many)
    row, by = gauge
    there = worth(row, state)
    if there < 0:
        return 0
    return there // by + 1
