"""Tests of loopgauge.gauges: is_reason."""

import unittest
from copy import deepcopy

from helpers import (
    FOREIGN, NOWHERE, Hostile, HostileList, exchanged, found, largest, numbers_in, places, reason_is_right,
)
from loopgauge import gauges
from loopgauge.errors import BadLoop
from loopgauge.gauges import is_reason

# Where the number is 3 or more it goes down by 2.
DOWN = (1, [([[1, -3]], [[1, -2]])])
# No number is 3 or more and 2 or less.
NEVER = (1, [([[1, -3], [-1, 2]], [[1000, 7]])])

# Loops, each with a gauge and a reason that are right.
RIGHT = (
    (DOWN, ([1, -3], 2), [("falls", [1, 0], [0, 0])]),
    (DOWN, ([1, 0], 2), [("falls", [1, 3], [0, 0])]),
    (DOWN, ([5, -2], 4), [("falls", [5, 13], [0, 6])]),
    (NEVER, ([0, -1], 1), [("never", [1, 1])]),
    (NEVER, ([-77, 10 ** 50], 9), [("never", [3, 3])]),
    # Down by another number, which is 1 or more and stays.
    ((2, [([[1, 0, 0], [0, 1, -1]], [[1, -1, 0], [0, 1, 0]])]), ([1, 0, 0], 1),
     [("falls", [1, 0, 0], [0, 1, 0])]),
    # Both sorts, and two ways that fall unlike far.
    ((1, [DOWN[1][0], NEVER[1][0], ([[1, -9]], [[1, -5]])]), ([1, -3], 2),
     [("falls", [1, 0], [0, 0]), ("never", [2, 2]), ("falls", [1, 6], [0, 3])]),
    ((3, [([[1, 1, 1, -6], [-1, 0, 0, 4]], [[1, 0, 0, -1], [0, 1, 0, -1], [0, 0, 1, -1]])]), ([2, 2, 2, -12], 6),
     [("falls", [2, 0, 0], [0, 0, 0])]),
    # It becomes another number, which is less.
    ((2, [([[1, -1, -1], [0, 1, 0]], [[0, 1, 0], [0, 1, -1]])]), ([1, 0, -1], 1),
     [("falls", [1, 1, 0], [1, 0, 0])]),
    # Two of four asks are enough.
    ((1, [([[1, 0], [-1, -1], [0, 5], [2, 2]], [[1, 0]])]), ([0, -1], 1), [("never", [1, 1, 0, 0])]),
)


def far():
    """A loop of three names, ways and asks with a gauge and a reason of far numbers."""
    many = 10 ** 300
    loop, gauge, reason = RIGHT[7]
    scaled = [(part[0],) + tuple([many * number for number in weights] for weights in part[1:]) for part in reason]
    return loop, ([many * number for number in gauge[0]], many * gauge[1]), scaled


class RightTest(unittest.TestCase):

    def test_right_ones(self):
        for loop, gauge, reason in RIGHT + (far(),):
            with self.subTest(loop=loop):
                self.assertIs(is_reason(loop, gauge, reason), True)
                self.assertTrue(reason_is_right(loop, gauge, reason))

    def test_one_more_or_one_less_at_every_place(self):
        for loop, gauge, reason in RIGHT + (far(),):
            for path in numbers_in((gauge, reason)):
                for by in (1, -1):
                    number = found((gauge, reason), path)
                    other, another = exchanged((gauge, reason), path, number + by)
                    with self.subTest(loop=loop, path=path, by=by):
                        right = reason_is_right(loop, other, another)
                        self.assertIs(is_reason(loop, other, another), right)
                        # Of the other sort a gauge may be any one, and an ask may weigh anything if it is noughts.
                        if reason[0][0] == "falls":
                            self.assertIs(right, False)

    def test_a_never_with_one_number_changed(self):
        loop, gauge = NEVER, ([0, -1], 1)
        for weights in ([2, 1], [1, 2], [0, 1], [1, 0], [0, 0]):
            self.assertIs(is_reason(loop, gauge, [("never", weights)]), False)
        for weights in ([2, 2], [10 ** 400, 10 ** 400]):
            self.assertIs(is_reason(loop, gauge, [("never", weights)]), True)

    def test_a_loop_with_one_number_changed(self):
        for loop, gauge, reason in RIGHT:
            for path in numbers_in(loop)[1:]:
                for by in (1, -1):
                    other = exchanged(loop, path, max(-1000, min(1000, found(loop, path) + by)))
                    self.assertIs(is_reason(other, gauge, reason), reason_is_right(other, gauge, reason))

    def test_a_never_worth_nought_shows_nothing(self):
        # This way may be gone where the number is 0, and the sum of its asks is 0.
        loop = (1, [([[1, 0], [-1, 0]], [[1, 0]])])
        self.assertIs(is_reason(loop, ([0, -1], 1), [("never", [1, 1])]), False)
        self.assertIs(is_reason(loop, ([0, -1], 1), [("never", [0, 0])]), False)
        self.assertIs(is_reason((1, [([[1, 1], [-1, 0]], [[1, 0]])]), ([0, -1], 1), [("never", [1, 1])]), False)
        self.assertIs(is_reason((1, [([], [[1, 0]])]), ([0, -1], 1), [("never", [])]), False)

    def test_each_name_of_a_never_counts(self):
        for at in range(3):
            asks = [[0, 0, 0, -1], [0, 0, 0, 0]]
            loop = (3, [(asks, [[0] * 4] * 3)])
            self.assertIs(is_reason(loop, ([0] * 4, 1), [("never", [1, 1])]), True)
            asks[1][at] = 1
            self.assertIs(is_reason(loop, ([0] * 4, 1), [("never", [1, 1])]), False)

    def test_each_way_counts(self):
        loop, gauge, reason = RIGHT[6]
        for at in range(3):
            self.assertIs(is_reason(loop, gauge, exchanged(reason, (at,), ("never", [0] * len(loop[1][at][0])))), False)
        for at, other in ((0, 2), (0, 1), (1, 2)):
            turned = list(reason)
            turned[at], turned[other] = turned[other], turned[at]
            self.assertIs(is_reason(loop, gauge, turned), False)

    def test_a_way_that_is_never_gone_may_fall_too(self):
        loop = (1, [([[0, -1]], [[1, 0]])])
        self.assertIs(is_reason(loop, ([0, 0], 1), [("falls", [0, 0], [1, 0])]), True)
        self.assertIs(is_reason(loop, ([0, 0], 1), [("never", [1])]), True)
        self.assertIs(is_reason(loop, ([0, 0], 2), [("falls", [0, 0], [1, 0])]), False)


class WeightsTest(unittest.TestCase):

    # Asked twice the same: so weights that are below 0 can come to the right sums.
    TWICE = (1, [([[1, 0], [1, 0]], [[1, -1]])])
    TWICE_NEVER = (1, [([[1, 0], [1, 0], [-1, -1]], [[1, -1]])])

    def falls(self, ahead, along):
        return is_reason(self.TWICE, ([1, 0], 1), [("falls", ahead, along)])

    def test_below_nought(self):
        self.assertIs(self.falls([1, 0, 0], [0, 0, 0]), True)
        self.assertIs(self.falls([0, 1, 0], [0, 0, 0]), True)
        self.assertIs(self.falls([2, -1, 0], [0, 0, 0]), False)
        self.assertIs(self.falls([1, 0, 0], [1, -1, 0]), False)
        self.assertIs(is_reason(self.TWICE, ([1, -1], 1), [("falls", [1, 0, -1], [0, 0, 0])]), False)
        self.assertIs(is_reason(self.TWICE, ([1, 0], 2), [("falls", [1, 0, 0], [0, 0, -1])]), False)
        for weights, right in (([1, 0, 1], True), ([0, 1, 1], True), ([2, -1, 1], False), ([-1, 2, 1], False)):
            self.assertIs(is_reason(self.TWICE_NEVER, ([0, 0], 1), [("never", weights)]), right)

    def test_of_another_length(self):
        self.assertIs(self.falls([1, 0], [0, 0, 0]), False)
        self.assertIs(self.falls([1, 0, 0], [0, 0]), False)
        self.assertIs(self.falls([1, 0, 0, 0], [0, 0, 0]), False)
        self.assertIs(self.falls([1, 0, 0], [0, 0, 0, 0]), False)
        self.assertIs(self.falls([1, 0, 0], []), False)
        for weights in ([1, 0, 1, 0], [1, 0], []):
            self.assertIs(is_reason(self.TWICE_NEVER, ([0, 0], 1), [("never", weights)]), False)
        self.assertIs(is_reason((1, [([[0, -1]], [[1, 0]])]), ([0, 0], 1), [("never", [1, 0])]), False)

    def test_true_and_false(self):
        self.assertIs(self.falls([True, 0, 0], [0, 0, 0]), False)
        self.assertIs(self.falls([1, False, 0], [0, 0, 0]), False)
        self.assertIs(self.falls([1, 0, 0], [0, 0, False]), False)
        self.assertIs(is_reason(self.TWICE_NEVER, ([0, 0], 1), [("never", [1, 0, True])]), False)
        self.assertIs(is_reason(self.TWICE_NEVER, ([0, 0], 1), [("never", [1, False, 1])]), False)


class OtherKindsTest(unittest.TestCase):

    def test_a_thing_exchanged_at_every_place(self):
        for loop, gauge, reason in RIGHT:
            for path in places((gauge, reason)):
                if not path:
                    continue
                there = found((gauge, reason), path)
                for at, thing in enumerate(FOREIGN):
                    if type(thing) is str and there == thing:
                        continue
                    other, another = exchanged((gauge, reason), path, thing)
                    with self.subTest(loop=loop, path=path, thing=at):
                        self.assertIs(is_reason(loop, other, another), False)

    def test_a_list_for_a_tuple_and_a_tuple_for_a_list(self):
        for loop, gauge, reason in RIGHT:
            for path in places((gauge, reason)):
                there = found((gauge, reason), path)
                if path and isinstance(there, (list, tuple)):
                    turned = list(there) if isinstance(there, tuple) else tuple(there)
                    other, another = exchanged((gauge, reason), path, turned)
                    self.assertIs(is_reason(loop, other, another), False)

    def test_too_long_and_too_short_at_every_place(self):
        for loop, gauge, reason in RIGHT:
            for path in places((gauge, reason)):
                there = found((gauge, reason), path)
                if path and isinstance(there, (list, tuple)):
                    for turned in (there + there[-1:], there[:-1], there[:0]):
                        other, another = exchanged((gauge, reason), path, turned)
                        self.assertIs(is_reason(loop, other, another), False)

    def test_another_word(self):
        for loop, gauge, reason in RIGHT:
            for at in range(len(reason)):
                for word in ("", "Never", "NEVER", "fall", "falls ", " never", "gauge", b"never", b"falls", 0):
                    self.assertIs(is_reason(loop, gauge, exchanged(reason, (at, 0), word)), False)
        self.assertIs(is_reason(NEVER, ([0, -1], 1), [("falls", [1, 1])]), False)
        self.assertIs(is_reason(DOWN, ([1, -3], 2), [("never", [1, 0], [0, 0])]), False)

    def test_a_gauge_that_is_none(self):
        # The sums of these would be right, by and all.
        still = (1, [([[1, 0]], [[1, 0]])])
        self.assertIs(is_reason(still, ([0, 0], 0), [("falls", [0, 0], [0, 0])]), False)
        self.assertIs(is_reason(still, ([0, 0], -1), [("falls", [0, 0], [0, 1])]), False)
        step = (1, [([[1, 0]], [[1, -1]])])
        self.assertIs(is_reason(step, ([1, 0], 1), [("falls", [1, 0], [0, 0])]), True)
        self.assertIs(is_reason(step, ([1, 0], True), [("falls", [1, 0], [0, 0])]), False)
        self.assertIs(is_reason(step, ([True, 0], 1), [("falls", [1, 0], [0, 0])]), False)
        self.assertIs(is_reason(step, ([1, False], 1), [("falls", [1, 0], [0, 0])]), False)
        for gauge in (None, (), ([1, 0],), ([1, 0], 1, 1), [[1, 0], 1], ((1, 0), 1), ([1], 1), ([1, 0, 0], 1),
                      ([], 1), ([1, 0], None), ([1, 0], "1"), ([1, 0], 1.0), (1, [1, 0]), "gauge", Hostile(),
                      (HostileList([1, 0]), 1), ([1, Hostile()], 1), ([1, 0], Hostile())):
            self.assertIs(is_reason(step, gauge, [("falls", [1, 0], [0, 0])]), False)
            # Where no way falls nothing else is asked of the gauge, but that it is one.
            self.assertIs(is_reason(NEVER, gauge, [("never", [1, 1])]), False)

    def test_a_reason_of_another_length(self):
        for loop, gauge, reason in RIGHT:
            for other in ([], reason + reason, reason + [None], reason[1:], reason[:-1], reason + [[]]):
                self.assertIs(is_reason(loop, gauge, other), False)


class BadLoopTest(unittest.TestCase):

    def test_ahead_of_all(self):
        for thing in NOWHERE + ((1, []), (4, DOWN[1]), [1, DOWN[1]]):
            for gauge, reason in ((([1, -3], 2), [("falls", [1, 0], [0, 0])]), (None, None), (Hostile(), Hostile())):
                with self.assertRaises(BadLoop) as caught:
                    is_reason(thing, gauge, reason)
                self.assertIs(type(caught.exception), BadLoop)

    def test_a_thing_exchanged_at_every_place_of_the_loop(self):
        for path in places(DOWN):
            for thing in NOWHERE:
                with self.assertRaises(BadLoop):
                    is_reason(exchanged(DOWN, path, thing), ([1, -3], 2), [("falls", [1, 0], [0, 0])])


class KeptTest(unittest.TestCase):

    def test_nothing_handed_in_is_changed(self):
        for loop, gauge, reason in RIGHT:
            before = deepcopy((loop, gauge, reason))
            is_reason(loop, gauge, reason)
            is_reason(loop, gauge, reason[:-1])
            self.assertEqual((loop, gauge, reason), before)

    def test_the_largest_loop(self):
        zeros = [0] * 5
        self.assertIs(is_reason(largest(), ([0] * 4, 1), [("falls", zeros, zeros)] * 3), False)

    def test_defined_in_its_file(self):
        self.assertEqual(is_reason.__module__, gauges.__name__)

    def test_the_arguments_have_their_names(self):
        loop, gauge, reason = RIGHT[0]
        self.assertIs(is_reason(loop=loop, gauge=gauge, reason=reason), True)


if __name__ == "__main__":
    unittest.main()
