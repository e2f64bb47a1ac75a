"""Tests of loopgauge.gauges: told."""

import random
import unittest
from copy import deepcopy

from helpers import (
    NOWHERE, Hostile, drawn_loop, exchanged, largest, lists_in, numbers_in, places, reason_is_right, spoil,
    spots_are_right,
)
from loopgauge import gauges
from loopgauge.errors import BadLoop
from loopgauge.gauges import are_spots, is_reason, told

NEVER_ONE = ([[1, -3], [-1, 2]], [[1, 1]])
DOWN_ONE = ([[1, -3]], [[1, -2]])
UP_ONE = ([[1, 0]], [[1, 1]])

# Loops that have a gauge.
GAUGED = (
    # One name.
    (1, [DOWN_ONE]),
    (1, [([[1, -5]], [[1, -5]]), ([[1, -1]], [[1, -1]])]),
    (1, [DOWN_ONE, NEVER_ONE, ([[1, -9]], [[1, -5]])]),
    (1, [([[-1, 7]], [[1, 3]])]),
    (1, [([[1, -1]], [[-1, 0]])]),
    # Falls by a third at least, and by a part of a thousand.
    (1, [([[3, -1]], [[0, 0]])]),
    (1, [([[1000, -1]], [[0, 0]])]),
    # Leads away from where it may be gone.
    (1, [([[1, 0], [-1, 9]], [[0, 10]])]),
    (1, [([[1, -1]], [[-1000, 1000]]), ([[1, -5], [-1, 3]], [[1, 0]])]),
    # Two names.
    (2, [([[1, 0, 0], [0, 1, -1]], [[1, -1, 0], [0, 1, 0]])]),
    (2, [([[1, -1, -1], [0, 1, 0]], [[0, 1, 0], [0, 1, -1]])]),
    (2, [([[1, -1, 0]], [[1, 0, 0], [0, 1, 1]])]),
    (2, [([[1, 0, 0], [0, 1, 0]], [[1, 0, -1], [0, 1, 1]]), ([[1, 0, 0], [0, 1, 0]], [[1, 0, 0], [0, 1, -1]])]),
    (2, [([[1, -1, -1], [0, 1, -1]], [[1, -1, 0], [0, 1, 0]]), ([[-1, 1, -1], [1, 0, -1]], [[1, 0, 0], [-1, 1, 0]])]),
    # Three names.
    (3, [([[1, 1, 1, -6], [-1, 0, 0, 4]], [[1, 0, 0, -1], [0, 1, 0, -1], [0, 0, 1, -1]])]),
    (3, [([[1, 0, 0, 0], [0, 1, 0, 0], [0, 0, 1, 0]], [[1, 0, 0, -1], [0, 1, 0, 2], [0, 0, 1, 3]]),
         ([[1, 0, 0, 0], [0, 1, 0, 0], [0, 0, 1, 0]], [[1, 0, 0, 0], [0, 1, 0, -1], [0, 0, 1, 5]]),
         ([[1, 0, 0, 0], [0, 1, 0, 0], [0, 0, 1, 0]], [[1, 0, 0, 0], [0, 1, 0, 0], [0, 0, 1, -1]])]),
    # May be gone nowhere, by the asks together or by one of noughts.
    (1, [NEVER_ONE]),
    (1, [NEVER_ONE, NEVER_ONE, NEVER_ONE]),
    (1, [([[0, -1]], [[1, 1]])]),
    (2, [([[0, 0, 5], [0, 0, -1000]], [[1, 0, 0], [0, 1, 0]]), ([[1, 1, -1], [-1, -1, 0]], [[1, 0, 0], [0, 1, 0]])]),
    (3, [([[1, 1, 0, -1], [-1, 0, 1, -1], [0, -1, -1, 1]], [[1, 0, 0, 0], [0, 1, 0, 0], [0, 0, 1, 0]])]),
)

# Loops that have none.
UNGAUGED = (
    (1, [UP_ONE]),
    (1, [DOWN_ONE, UP_ONE]),
    (1, [UP_ONE, NEVER_ONE]),
    (1, [NEVER_ONE, DOWN_ONE, UP_ONE]),
    # It stays: everywhere, at 0 alone, and at a half alone, where no state of whole numbers is.
    (1, [([[1, -1]], [[1, 0]])]),
    (1, [([[1, 0]], [[-1, 0]])]),
    (1, [([[2, -1], [-2, 1]], [[1, 0]])]),
    # No asks, and asks of noughts alone: it may be gone everywhere.
    (1, [([], [[1, -1]])]),
    (1, [([], [[0, 0]])]),
    (1, [([[0, 0]], [[1, -1]])]),
    (1, [([[0, 0], [0, 0], [0, 0], [0, 0]], [[1, -1]])]),
    (1, [DOWN_ONE, ([], [[1, -2]])]),
    (2, [([], [[1, 0, 0], [0, 1, -1]])]),
    (2, [([[0, 0, 0]], [[1, 0, -1], [0, 1, 0]]), ([[0, 0, -1]], [[1, 0, 0], [0, 1, 0]])]),
    # Each way brings back what the other one takes.
    (2, [([[0, 1, -1]], [[1, 0, 1], [0, 1, -1]]), ([[1, 0, -1]], [[1, 0, -1], [0, 1, 1]])]),
    (2, [([[1, 0, 0], [0, 1, 0]], [[1, 0, -1], [0, 0, 9]]), ([[1, 0, 0], [0, 1, 0]], [[0, 0, 9], [0, 1, -1]])]),
    # Every run ends, but its turns are more than any sum.
    (2, [([[1, 0, 0]], [[1, 1, 0], [0, 1, -1]])]),
    (2, [([[1, 0, 0], [0, 1, 0]], [[1, 0, -1], [1, 0, 0]]), ([[1, 0, 0], [0, 1, 0]], [[1, 0, 0], [0, 1, -1]])]),
    (3, [([], [[1, 0, 0, 0], [0, 1, 0, 0], [0, 0, 1, 0]])]),
    (3, [([[1, 0, 0, 0]], [[1, 1, 0, 0], [0, 1, 1, 0], [0, 0, 1, -1]])]),
    (3, [([[1, 0, 0, -1]], [[0, 1, 0, 0], [0, 0, 1, 0], [1, 0, 0, 0]]),
         ([[0, 0, 0, -1]], [[0, 0, 0, 0]] * 3), ([[1, 1, 1, 1]], [[0, 0, 0, -1]] * 3)]),
)

# The search for a gauge of these goes round for ever if it is careless where
# several rows of its table let a number grow equally far.
ROUND = (
    (3, [([[-1, -3, 1, 0], [1, -2, 1, 3], [3, 3, 0, -1], [-3, 1, -3, 3]], [[0, 3, 1, 1], [1, 1, 3, 0], [0, -1, 0, -3]]),
         ([], [[1, 0, 0, 1], [0, 1, 0, -3], [0, 0, 1, 0]]),
         ([[0, -3, 3, 0]], [[1, 0, 0, -1], [0, 1, 0, 1], [0, 0, 1, 0]])]),
    (3, [([[0, 3, -1, -1], [2, 3, 3, -1], [-3, 1, -2, -3], [-3, -3, 2, 0]],
          [[-1, 1, -1, -1], [3, 0, 0, -1], [0, -3, -1, 3]]),
         ([[-1, -2, 0, 3], [1, 0, 0, 2]], [[1, 0, 0, -1], [0, 1, 0, -1], [0, 0, 1, 3]]),
         ([], [[1, -3, -3, -1], [0, 0, 1, -3], [0, -3, 1, 1]])]),
    (3, [([[2, -1, -10, -1], [0, 0, 10, 0], [1, -1, 10, 0], [-9, 0, -1, 6]],
          [[-5, 0, 0, 1], [0, 0, -1, -1], [-1, 2, 1, -9]]),
         ([[5, 0, 1, -10], [7, -1, 1, 7], [-1, -10, -1, 5]], [[1, 0, 0, 3], [0, 1, 0, 0], [0, 0, 1, 2]])]),
    (3, [([[6, -10, -4, -10], [-10, -6, 10, 1], [1, 1, -10, 7]], [[1, 0, 0, 0], [0, 1, 0, 0], [0, 0, 1, 0]]),
         ([[-10, 0, 10, 0], [3, 10, -10, 1], [10, -8, -1, 1], [7, -7, -10, -1]],
          [[-10, -10, 1, 4], [0, 10, 10, -10], [-10, -1, 0, 1]])]),
)


def largest_gauged():
    """A loop of as much as there may be of everything, that has a gauge."""
    asks = [[1, 0, 0, 0], [0, 1, 0, 0], [0, 0, 1, 0], [-1, -1, -1, 1000]]
    ways = []
    for at in range(3):
        gives = [[int(place == name) for place in range(3)] + [-1 if name == at else 0] for name in range(3)]
        ways.append((deepcopy(asks), gives))
    return (3, ways)


class ToldCase(unittest.TestCase):

    def hold_kinds(self, loop, answer):
        """What is told has the kinds and lengths of points 5 to 8."""
        many, ways = loop
        self.assertIs(type(answer), tuple)
        self.assertIn(answer[0], ("gauge", "none"))
        self.assertIs(type(answer[-1]), list)
        self.assertEqual(len(answer[-1]), len(ways))
        rows = []
        if answer[0] == "gauge":
            kind, gauge, reason = answer
            self.assertIs(type(gauge), tuple)
            row, by = gauge
            self.assertIs(type(by), int)
            rows.append((row, many + 1))
            for way, part in zip(ways, reason):
                self.assertIs(type(part), tuple)
                self.assertEqual(len(part), {"never": 2, "falls": 3}[part[0]])
                rows += [(weights, len(way[0]) + (part[0] == "falls")) for weights in part[1:]]
        else:
            kind, spots = answer
            for part in spots:
                if part is not None:
                    self.assertIs(type(part), tuple)
                    self.assertEqual(len(part), 3)
                    rows += [(spot, many + 1) for spot in part]
        for row, length in rows:
            self.assertIs(type(row), list)
            self.assertEqual(len(row), length)
            self.assertEqual({type(number) for number in row} | {int}, {int})

    def hold(self, loop, answer):
        """What is told is right, and of no list twice or of a list of the loop."""
        self.hold_kinds(loop, answer)
        if answer[0] == "gauge":
            kind, gauge, reason = answer
            self.assertTrue(reason_is_right(loop, gauge, reason))
            self.assertIs(is_reason(loop, gauge, reason), True)
        else:
            kind, spots = answer
            self.assertTrue(spots_are_right(loop, spots))
            self.assertIs(are_spots(loop, spots), True)
        lists = [id(part) for part in lists_in(answer)]
        self.assertEqual(len(set(lists)), len(lists))
        self.assertFalse(set(lists) & {id(part) for part in lists_in(loop)})

    def ask(self, loop, kind=None):
        before = deepcopy(loop)
        answer = told(loop)
        self.assertEqual(loop, before)
        self.hold(loop, answer)
        if kind is not None:
            self.assertEqual(answer[0], kind)
        return answer


class ToldTest(ToldCase):

    def test_loops_that_have_a_gauge(self):
        for loop in GAUGED:
            with self.subTest(loop=loop):
                self.ask(loop, "gauge")

    def test_loops_that_have_none(self):
        for loop in UNGAUGED:
            with self.subTest(loop=loop):
                self.ask(loop, "none")

    def test_a_search_that_would_go_round(self):
        for loop in ROUND:
            with self.subTest(loop=loop):
                self.ask(loop)

    def test_more_ways_take_a_gauge_away_and_never_bring_one(self):
        for loop in GAUGED:
            for other in UNGAUGED:
                if loop[0] == other[0] and len(loop[1]) + len(other[1]) <= 3:
                    self.ask((loop[0], loop[1] + other[1]), "none")
                    self.ask((loop[0], other[1] + loop[1]), "none")

    def test_a_way_twice(self):
        for kind, loops in (("gauge", GAUGED), ("none", UNGAUGED)):
            for many, ways in loops:
                if len(ways) < 3:
                    self.ask((many, ways + ways[:1]), kind)

    def test_a_way_that_may_be_gone_nowhere_changes_nothing(self):
        for kind, loops in (("gauge", GAUGED), ("none", UNGAUGED)):
            for many, ways in loops:
                never = ([[0] * many + [-1]], [[1000] * (many + 1)] * many)
                for at in range(len(ways) + 1):
                    if len(ways) < 3:
                        self.ask((many, ways[:at] + [never] + ways[at:]), kind)

    def test_the_smallest_loops(self):
        for ask in range(-2, 3):
            for last in range(-2, 3):
                for give in range(-2, 3):
                    for more in range(-2, 3):
                        self.ask((1, [([[ask, last]], [[give, more]])]))

    def test_drawn_loops(self):
        chance = random.Random(20)
        kinds = {"gauge": 0, "none": 0}
        for _ in range(600):
            loop = drawn_loop(chance, chance.randint(1, 3), chance.randint(1, 3), chance.choice([1, 2, 9, 1000]))
            kinds[self.ask(loop)[0]] += 1
        self.assertGreater(min(kinds.values()), 100)

    def test_ends_at_every_place_of_the_largest_loops(self):
        for loop in (largest(), largest_gauged()):
            for path in numbers_in(loop)[1:]:
                for number in (-1000, 1000):
                    self.ask(exchanged(loop, path, number))

    def test_ends_at_all_places_of_the_largest_loops(self):
        chance = random.Random(21)
        for numbers in ([-1000, 1000], [-1000, 0, 1000], list(range(-1000, 1001))):
            for _ in range(60):
                ways = [[[chance.choice(numbers) for _ in range(4)] for _ in range(7)] for _ in range(3)]
                self.ask((3, [(rows[:4], rows[4:]) for rows in ways]))

    def test_the_largest_loops_that_only_add(self):
        chance = random.Random(22)
        kinds = {"gauge": 0, "none": 0}
        for _ in range(120):
            ways = []
            for _ in range(3):
                asks = [[chance.randint(-1000, 1000) for _ in range(4)] for _ in range(4)]
                gives = [[int(at == k) for at in range(3)] + [chance.randint(-1000, 1000)] for k in range(3)]
                ways.append((asks, gives))
            kinds[self.ask((3, ways))[0]] += 1
        self.assertGreater(min(kinds.values()), 5)

    def test_largest_ones(self):
        self.ask(largest(), "none")
        self.ask(largest_gauged(), "gauge")


class OwnTest(ToldCase):

    def test_what_was_told_being_changed_it_is_right_again(self):
        for loop in GAUGED + UNGAUGED:
            answer = told(loop)
            again = told(loop)
            before = deepcopy(again)
            spoil(answer)
            self.assertEqual(again, before)
            self.hold(loop, told(loop))

    def test_changes_behind_the_call_change_nothing_told(self):
        for loop in GAUGED + UNGAUGED:
            changed = deepcopy(loop)
            answer = told(changed)
            spoil(changed)
            self.hold(loop, answer)

    def test_a_loop_in_which_a_list_stands_several_times(self):
        row = [1, 0]
        asks, gives = [row, row], [row]
        loop = (1, [(asks, gives), (asks, gives)])
        self.ask(loop, "none")
        asks = [[1, -1]]
        self.ask((1, [(asks, [[1, -1]]), (asks, [[0, 0]])]), "gauge")


class BadLoopTest(unittest.TestCase):

    def refuse(self, thing):
        with self.assertRaises(BadLoop) as caught:
            told(thing)
        self.assertIs(type(caught.exception), BadLoop)

    def test_what_is_no_loop(self):
        way = ([], [[1, 0]])
        for thing in NOWHERE + ((1, []), (1, [way] * 4), (0, [way]), (4, [way]), [1, [way]], (1, [([], [])]),
                                (1, [([[1, 0]] * 5, [[1, 0]])]), (1, [([], [[1001, 0]])]), Hostile()):
            self.refuse(thing)

    def test_a_thing_exchanged_at_every_place(self):
        loop = (2, [([[1, 0, 0]], [[1, 0, 0], [0, 1, 0]])])
        for path in places(loop):
            for thing in NOWHERE:
                self.refuse(exchanged(loop, path, thing))


class InterfaceTest(unittest.TestCase):

    def test_defined_in_its_file(self):
        self.assertEqual(told.__module__, gauges.__name__)

    def test_the_arguments_have_their_names(self):
        self.assertEqual(told(loop=GAUGED[0])[0], "gauge")


if __name__ == "__main__":
    unittest.main()
