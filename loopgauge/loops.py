"""Loops: what makes one, where a way leads, and how a run goes on."""

from loopgauge.errors import BadCount, BadLoop, BadState

MOST_NAMES = 3
MOST_WAYS = 3
MOST_ASKS = 4
MOST_TURNS = 60
FARTHEST = 1000


# Kinds are compared by type(x), not by isinstance: True and False are no whole
# numbers, and a thing of a foreign kind is refused before any of its own
# methods could be called. For the same reason no message shows the thing.
def is_whole(thing):
    """Whether a thing is a whole number, of any size."""
    return type(thing) is int


def is_whole_within(thing, low, high):
    """Whether a thing is a whole number from low to high."""
    return is_whole(thing) and low <= thing <= high


def is_list_of(thing, least, most):
    """Whether a thing is a list of least to most things."""
    return type(thing) is list and least <= len(thing) <= most


def are_wholes(thing, length):
    """Whether a thing is a list of so many whole numbers."""
    return is_list_of(thing, length, length) and all(is_whole(number) for number in thing)


def is_pair(thing):
    """Whether a thing is a tuple of two things."""
    return type(thing) is tuple and len(thing) == 2


def is_row(thing, many):
    """Whether a thing is a row for so many names."""
    if not is_list_of(thing, many + 1, many + 1):
        return False
    return all(is_whole_within(number, -FARTHEST, FARTHEST) for number in thing)


def are_rows(thing, many, least, most):
    """Whether a thing is a list of least to most rows for so many names."""
    return is_list_of(thing, least, most) and all(is_row(row, many) for row in thing)


def is_way(thing, many):
    """Whether a thing is a way for so many names."""
    if not is_pair(thing):
        return False
    asks, gives = thing
    return are_rows(asks, many, 0, MOST_ASKS) and are_rows(gives, many, many, many)


def is_loop(thing):
    """Whether a thing is a loop."""
    if not is_pair(thing):
        return False
    many, ways = thing
    if not is_whole_within(many, 1, MOST_NAMES) or not is_list_of(ways, 1, MOST_WAYS):
        return False
    return all(is_way(way, many) for way in ways)


def is_state(thing, many):
    """Whether a thing is a state of so many names."""
    return are_wholes(thing, many)


def need_loop(thing):
    """Refuse what is no loop."""
    if not is_loop(thing):
        raise BadLoop("this is no loop")


def need_state(thing, many):
    """Refuse what is no state of so many names."""
    if not is_state(thing, many):
        raise BadState("this is no state of the loop")


def need_count(thing, high):
    """Refuse what is no whole number from 0 to high."""
    if not is_whole_within(thing, 0, high):
        raise BadCount("this is no whole number within the limits")


def worth(row, state):
    """The worth of a row at a state."""
    return sum(number * at for number, at in zip(row, state)) + row[-1]


def may_be_gone(way, state):
    """Whether each ask of a way is worth 0 or more at a state."""
    asks, _ = way
    return all(worth(ask, state) >= 0 for ask in asks)


def led_to(way, state):
    """The state, a new list, to which a way leads, None where it may not be gone."""
    if not may_be_gone(way, state):
        return None
    _, gives = way
    return [worth(row, state) for row in gives]


def turned(ways, state):
    """The state to which the first way that may be gone leads, None where none may."""
    for way in ways:
        following = led_to(way, state)
        if following is not None:
            return following
    return None


def after(loop, number, state):
    """The state to which the way of that number leads, None where it may not be gone."""
    need_loop(loop)
    many, ways = loop
    need_count(number, len(ways) - 1)
    need_state(state, many)
    return led_to(ways[number], state)


def run(loop, state, most):
    """The states of a run of most turns at most, from a copy of the state on."""
    need_loop(loop)
    many, ways = loop
    need_state(state, many)
    need_count(most, MOST_TURNS)
    states = [list(state)]
    for _ in range(most):
        following = turned(ways, states[-1])
        if following is None:
            return states
        states.append(following)
    return states
