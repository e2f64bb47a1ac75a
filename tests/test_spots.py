"""Tests of loopgauge.gauges: are_spots."""

import unittest
from copy import deepcopy

from helpers import (
    FOREIGN, NOWHERE, Hostile, HostileList, exchanged, found, largest, numbers_in, places, spots_are_right,
)
from loopgauge import gauges
from loopgauge.errors import BadLoop
from loopgauge.gauges import are_spots

# Up by 1 from 0 on, for ever.
UP = (1, [([[1, 0]], [[1, 1]])])
# Whatever the number is, it stays.
STILL = (1, [([], [[1, 0]])])
# The same, by two ways.
STILL_TWICE = (1, [([], [[1, 0]]), ([], [[1, 0]])])
# May be gone nowhere.
NEVER_WAY = ([[0, -1]], [[5, 5]])
# One goes up and one down, as much: together they stay.
SEESAW = (2, [([[0, 1, -1]], [[1, 0, 1], [0, 1, -1]]), ([[1, 0, -1]], [[1, 0, -1], [0, 1, 1]])])

# Loops, each with spots that are right.
RIGHT = (
    (UP, [([0, 1], [1, 0], [0, 1])]),
    (UP, [([7, 1], [3, 0], [4, 3])]),
    (STILL, [([0, 1], [0, 0], [0, 1])]),
    (STILL, [([-5, 2], [0, 0], [-10 ** 300, 10 ** 300])]),
    (STILL_TWICE, [([0, 1], [3, 0], [0, 1]), ([0, 1], [-3, 0], [9, 0])]),
    (STILL_TWICE, [None, ([0, 1], [0, 0], [0, 1])]),
    (STILL_TWICE, [([0, 1], [0, 0], [0, 1]), None]),
    ((1, [NEVER_WAY, UP[1][0]]), [None, ([0, 1], [1, 0], [0, 1])]),
    ((1, [UP[1][0], NEVER_WAY, STILL[1][0]]), [([0, 1], [1, 0], [0, 1]), None, ([2, 3], [0, 0], [0, 0])]),
    (SEESAW, [([0, 1, 1], [0, 0, 0], [0, 1, 1]), ([1, 0, 1], [0, 0, 0], [1, 0, 1])]),
    # Far leads from 2 to 4, and near makes up for it.
    ((1, [([[1, -1]], [[2, 0]])]), [([1, 1], [2, 0], [2, 1])]),
    ((3, [([[1, 0, 0, 0], [0, 1, 0, -4]], [[1, 1, 0, 0], [0, 1, 0, 0], [0, 0, 0, 8]])]),
     [([0, 4, 0, 1], [4, 0, 6, 0], [0, 4, 2, 1])]),
)


class RightTest(unittest.TestCase):

    def test_right_ones(self):
        for loop, spots in RIGHT:
            with self.subTest(loop=loop, spots=spots):
                self.assertTrue(spots_are_right(loop, spots))
                self.assertIs(are_spots(loop, spots), True)

    def test_one_more_or_one_less_at_every_place(self):
        seen = set()
        for loop, spots in RIGHT:
            for path in numbers_in(spots):
                for by in (1, -1):
                    other = exchanged(spots, path, found(spots, path) + by)
                    with self.subTest(loop=loop, path=path, by=by):
                        right = spots_are_right(loop, other)
                        self.assertIs(are_spots(loop, other), right)
                        # A near that is another one never fits.
                        if path[1] == 1:
                            self.assertIs(right, False)
                        seen.add((path[1], right))
        self.assertEqual(seen, {(0, True), (0, False), (1, False), (2, True), (2, False)})

    def test_a_loop_with_one_number_changed(self):
        for loop, spots in RIGHT:
            for path in numbers_in(loop)[1:]:
                for by in (1, -1):
                    other = exchanged(loop, path, found(loop, path) + by)
                    self.assertIs(are_spots(other, spots), spots_are_right(other, spots))

    def test_none_for_all_the_ways(self):
        for loop, spots in RIGHT:
            self.assertIs(are_spots(loop, [None] * len(loop[1])), False)
        self.assertIs(are_spots((1, [NEVER_WAY]), [None]), False)

    def test_each_way_counts(self):
        loop, spots = RIGHT[9]
        self.assertIs(are_spots(loop, [spots[0], None]), False)
        self.assertIs(are_spots(loop, [None, spots[1]]), False)
        self.assertIs(are_spots(loop, [spots[1], spots[0]]), False)

    def test_each_place_counts(self):
        loop = (3, [([], [[1, 0, 0, 0], [0, 1, 0, 0], [0, 0, 1, 0]])])
        point = [0, 0, 0, 1]
        self.assertIs(are_spots(loop, [(point, [0, 0, 0, 0], point)]), True)
        for at in range(4):
            for by in (1, -1):
                near = [by if k == at else 0 for k in range(4)]
                self.assertIs(are_spots(loop, [(point, near, point)]), False)

    def test_each_ask_of_each_spot_counts(self):
        asks = [[1, 0], [2, 0], [-1, 5], [0, 3]]
        loop = (1, [(asks, [[1, 0]])])
        self.assertIs(are_spots(loop, [([5, 1], [0, 0], [5, 1])]), True)
        self.assertIs(are_spots(loop, [([0, 1], [0, 0], [0, 1])]), True)
        for wrong in ([6, 1], [-1, 1]):
            self.assertIs(are_spots(loop, [(wrong, [0, 0], [5, 1])]), False)
            self.assertIs(are_spots(loop, [([5, 1], [0, 0], wrong)]), False)
        # A direction in which the asks do not hold for ever is no near.
        self.assertIs(are_spots((1, [([[1, 0], [-1, 5]], [[1, 1]])]), [([0, 1], [1, 0], [0, 1])]), False)
        self.assertIs(are_spots((1, [([[1, 0], [0, 5]], [[1, 1]])]), [([0, 1], [1, 0], [0, 1])]), True)

    def test_the_last_number_of_an_ask_counts_at_the_last_number_of_a_spot(self):
        loop = (1, [([[1, -6]], [[1, 0]])])
        for last in (1, 2, 3):
            self.assertIs(are_spots(loop, [([6, 1], [0, 0], [6 * last, last])]), True)
            self.assertIs(are_spots(loop, [([6, 1], [0, 0], [6 * last - 1, last])]), False)


class LastNumbersTest(unittest.TestCase):

    def test_a_spot_below_nought(self):
        # The sums of the first two are right.
        point, spot = [0, 1], [0, 0]
        self.assertIs(are_spots(STILL_TWICE, [(point, [0, -1], point), (point, [0, 1], point)]), False)
        self.assertIs(are_spots(STILL_TWICE, [(point, spot, [0, -1]), (point, spot, [0, 2])]), False)
        self.assertIs(are_spots(STILL_TWICE, [([0, -1], spot, point), (point, spot, point)]), False)
        self.assertIs(are_spots(STILL_TWICE, [(point, spot, [0, 0]), (point, spot, [0, 1])]), True)

    def test_a_point_of_nought(self):
        for loop, spots in RIGHT:
            for at, part in enumerate(spots):
                if part is not None:
                    other = exchanged(spots, (at, 0, len(part[0]) - 1), 0)
                    self.assertIs(are_spots(loop, other), False)
        self.assertIs(are_spots(UP, [([0, 0], [1, 0], [0, 1])]), False)

    def test_all_far_nought_together(self):
        self.assertIs(are_spots(STILL, [([0, 1], [0, 0], [0, 0])]), False)
        self.assertIs(are_spots(STILL, [([0, 1], [0, 0], [5, 0])]), False)
        self.assertIs(are_spots(STILL_TWICE, [([0, 1], [4, 0], [1, 0]), ([0, 1], [-4, 0], [2, 0])]), False)
        self.assertIs(are_spots(STILL_TWICE, [([0, 1], [0, 0], [1, 0]), None]), False)

    def test_a_near_of_more_than_nought(self):
        self.assertIs(are_spots(STILL, [([0, 1], [0, 1], [0, 1])]), False)
        self.assertIs(are_spots(UP, [([0, 1], [1, 1], [0, 1])]), False)


class OtherKindsTest(unittest.TestCase):

    def test_a_thing_exchanged_at_every_place(self):
        for loop, spots in RIGHT:
            for path in places(spots):
                for at, thing in enumerate(FOREIGN):
                    if thing is None and len(path) == 1:
                        continue
                    with self.subTest(loop=loop, path=path, thing=at):
                        self.assertIs(are_spots(loop, exchanged(spots, path, thing)), False)

    def test_none_for_a_way_is_held_against_the_sums(self):
        for loop, spots in RIGHT:
            for at in range(len(spots)):
                other = exchanged(spots, (at,), None)
                self.assertIs(are_spots(loop, other), spots_are_right(loop, other))

    def test_true_and_false_where_the_number_would_be_right(self):
        for loop, spots in RIGHT:
            for path in numbers_in(spots):
                if found(spots, path) in (0, 1):
                    other = exchanged(spots, path, bool(found(spots, path)))
                    self.assertIs(are_spots(loop, other), False)
                    self.assertIs(are_spots(loop, exchanged(spots, path, float(found(spots, path)))), False)

    def test_a_list_for_a_tuple_and_a_tuple_for_a_list(self):
        for loop, spots in RIGHT:
            for path in places(spots):
                there = found(spots, path)
                if isinstance(there, (list, tuple)):
                    turned = list(there) if isinstance(there, tuple) else tuple(there)
                    self.assertIs(are_spots(loop, exchanged(spots, path, turned)), False)

    def test_too_long_and_too_short_at_every_place(self):
        for loop, spots in RIGHT:
            for path in places(spots):
                there = found(spots, path)
                if isinstance(there, (list, tuple)):
                    for turned in (there + there[-1:], there[:-1], there[:0], there + there[:0] + type(there)([0])):
                        self.assertIs(are_spots(loop, exchanged(spots, path, turned)), False)

    def test_none_behind_the_ways(self):
        for loop, spots in RIGHT:
            self.assertIs(are_spots(loop, spots + [None]), False)

    def test_things_that_fail_when_asked(self):
        for thing in (Hostile(), HostileList(), [Hostile()], (Hostile(),) * 3, [(Hostile(),) * 3],
                      [([0, 1], HostileList([1, 0]), [0, 1])], [([0, 1], [1, 0], [Hostile(), 1])]):
            self.assertIs(are_spots(UP, thing), False)


class BadLoopTest(unittest.TestCase):

    def test_ahead_of_all(self):
        for thing in NOWHERE + ((1, []), (4, UP[1]), [1, UP[1]]):
            for spots in ([([0, 1], [1, 0], [0, 1])], [None], None, Hostile()):
                with self.assertRaises(BadLoop) as caught:
                    are_spots(thing, spots)
                self.assertIs(type(caught.exception), BadLoop)

    def test_a_thing_exchanged_at_every_place_of_the_loop(self):
        for path in places(UP):
            for thing in NOWHERE:
                with self.assertRaises(BadLoop):
                    are_spots(exchanged(UP, path, thing), [([0, 1], [1, 0], [0, 1])])


class KeptTest(unittest.TestCase):

    def test_nothing_handed_in_is_changed(self):
        for loop, spots in RIGHT:
            before = deepcopy((loop, spots))
            are_spots(loop, spots)
            self.assertEqual((loop, spots), before)

    def test_the_largest_loop(self):
        nothing = [0] * 4
        self.assertIs(are_spots(largest(), [([0, 0, 0, 1], nothing, nothing)] * 3), False)

    def test_defined_in_its_file(self):
        self.assertEqual(are_spots.__module__, gauges.__name__)

    def test_the_arguments_have_their_names(self):
        self.assertIs(are_spots(loop=UP, spots=[([0, 1], [1, 0], [0, 1])]), True)


if __name__ == "__main__":
    unittest.main()
