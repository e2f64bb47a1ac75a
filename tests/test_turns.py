"""Tests of loopgauge.gauges: most_turns, and that no run or walk takes more turns than it tells."""

import random
import unittest
from copy import deepcopy

from helpers import NOWHERE, Hostile, HostileList, drawn_loop, exchanged, holds_itself, may_be_gone, places, worth
from loopgauge import gauges
from loopgauge.errors import BadGauge, BadLoop, BadState
from loopgauge.gauges import is_reason, most_turns, told
from loopgauge.loops import after, run

DOWN = (1, [([[1, -3]], [[1, -2]])])
GAUGE = ([1, -3], 2)
PLANE = (2, [([[1, 0, 0], [0, 1, -1]], [[1, -1, 0], [0, 1, 0]])])
SPACE = (3, [([[1, 1, 1, -6], [-1, 0, 0, 4]], [[1, 0, 0, -1], [0, 1, 0, -1], [0, 0, 1, -1]])])


def wrong_gauges(many):
    """Things that are no gauges for so many names."""
    row = [1] * (many + 1)
    wrong = [None, True, 0, "", "gauge", [], (), (row,), (row, 1, 1), [row, 1], (1, row), {}, row, Hostile()]
    wrong += [(row[:-1], 1), (row + [0], 1), (tuple(row), 1), ([], 1), (None, 1), ("11", 1), (HostileList(row), 1)]
    wrong += [(row, by) for by in (0, -1, -10 ** 300, True, False, None, "1", 1.0, [1], (1,), Hostile())]
    for at in range(many + 1):
        for thing in (True, False, None, "1", 1.0, [1], (1,), Hostile(), holds_itself()):
            wrong.append((row[:at] + [thing] + row[at + 1:], 1))
    return wrong


def wrong_states(many):
    """Things that are no states of so many names."""
    state = [0] * many
    wrong = [state[:-1], state + [0], tuple(state), None, True, 0, "", "0" * many, {}, Hostile(), HostileList(state)]
    for at in range(many):
        for thing in (True, False, None, "0", 0.0, [0], (0,), Hostile(), holds_itself()):
            wrong.append(state[:at] + [thing] + state[at + 1:])
    return wrong


class MostTurnsTest(unittest.TestCase):

    def tell(self, loop, gauge, state, turns):
        answer = most_turns(loop, gauge, state)
        self.assertIs(type(answer), int)
        self.assertEqual(answer, turns)

    def test_a_worth_below_nought(self):
        for number in (2, 1, 0, -1, -2, -3, -10 ** 300):
            self.tell(DOWN, GAUGE, [number], 0)

    def test_a_worth_of_nought(self):
        self.tell(DOWN, GAUGE, [3], 1)
        self.tell(DOWN, ([0, 0], 5), [-77], 1)

    def test_a_worth_of_by_less_one_and_of_by(self):
        self.tell(DOWN, GAUGE, [4], 1)
        self.tell(DOWN, GAUGE, [5], 2)
        for by in (1, 2, 3, 1000, 10 ** 50):
            for times in (1, 2, 7):
                self.tell(DOWN, ([1, 0], by), [times * by - 1], times)
                self.tell(DOWN, ([1, 0], by), [times * by], times + 1)
                self.tell(DOWN, ([1, 0], by), [times * by + by - 1], times + 1)

    def test_far_numbers(self):
        far = 10 ** 400
        self.tell(DOWN, GAUGE, [2 * far + 3], far + 1)
        self.tell(DOWN, GAUGE, [2 * far + 2], far)
        self.tell(DOWN, ([far, -far], far), [far], far)
        self.tell(DOWN, ([1, 0], far), [far - 1], 1)

    def test_each_place_counts(self):
        self.tell(PLANE, ([2, 3, 4], 1), [5, 7], 10 + 21 + 4 + 1)
        self.tell(SPACE, ([2, 3, 4, 5], 2), [7, -1, 6], (14 - 3 + 24 + 5) // 2 + 1)
        self.tell(SPACE, ([2, 2, 2, -12], 6), [2, 2, 2], 1)

    def test_gauges_that_are_not_right(self):
        self.tell(DOWN, ([-1, 0], 1), [-5], 6)
        self.tell(DOWN, ([-1, 0], 1), [5], 0)
        self.tell(DOWN, ([0, 9], 4), [10 ** 9], 3)
        self.tell((1, [([], [[1, 1]])]), ([1, 0], 1), [3], 4)
        self.tell(PLANE, ([0, 0, 0], 1), [8, 8], 1)

    def test_of_what_is_told(self):
        kind, gauge, reason = told(DOWN)
        for number, turns in ((2, 0), (3, 1), (4, 1), (5, 2), (6, 2), (7, 3)):
            self.assertGreaterEqual(most_turns(DOWN, gauge, [number]), turns)

    def test_nothing_handed_in_is_changed(self):
        for loop, gauge, state in ((DOWN, GAUGE, [9]), (PLANE, ([2, 3, 4], 1), [5, 7])):
            before = deepcopy((loop, gauge, state))
            most_turns(loop, gauge, state)
            self.assertEqual((loop, gauge, state), before)


class RefusalsTest(unittest.TestCase):

    def refuse(self, kind, loop, gauge, state):
        with self.assertRaises(kind) as caught:
            most_turns(loop, gauge, state)
        self.assertIs(type(caught.exception), kind)

    def test_bad_loop(self):
        for at, thing in enumerate(NOWHERE + ((1, []), [1, DOWN[1]])):
            with self.subTest(thing=at):
                self.refuse(BadLoop, thing, GAUGE, [9])
        for path in places(DOWN):
            for thing in NOWHERE:
                self.refuse(BadLoop, exchanged(DOWN, path, thing), GAUGE, [9])

    def test_bad_gauge(self):
        for loop in (DOWN, PLANE, SPACE):
            for at, gauge in enumerate(wrong_gauges(loop[0])):
                with self.subTest(many=loop[0], gauge=at):
                    self.refuse(BadGauge, loop, gauge, [9] * loop[0])

    def test_a_gauge_for_another_loop(self):
        for loop in (DOWN, PLANE, SPACE):
            for many in (1, 2, 3):
                if many != loop[0]:
                    self.refuse(BadGauge, loop, ([1] * (many + 1), 1), [9] * loop[0])

    def test_bad_state(self):
        for loop in (DOWN, PLANE, SPACE):
            for at, state in enumerate(wrong_states(loop[0])):
                for last in (5, -5):
                    with self.subTest(many=loop[0], state=at):
                        self.refuse(BadState, loop, ([0] * loop[0] + [last], 1), state)

    def test_the_order_of_refusals(self):
        self.refuse(BadLoop, (1, []), ([1], 0), [True])
        self.refuse(BadLoop, (1, []), GAUGE, [True])
        self.refuse(BadLoop, (1, []), ([1], 0), [9])
        self.refuse(BadLoop, None, None, None)
        self.refuse(BadGauge, DOWN, ([1, -3], 0), [True])
        self.refuse(BadGauge, DOWN, None, None)
        self.refuse(BadState, DOWN, GAUGE, None)


class WholeTest(unittest.TestCase):

    def gauged_loops(self):
        """Loops with their gauges."""
        chance = random.Random(30)
        found = []
        while len(found) < 120:
            loop = drawn_loop(chance, chance.randint(1, 3), chance.randint(1, 3), chance.choice([1, 2, 3, 9]))
            answer = told(loop)
            if answer[0] == "gauge":
                self.assertTrue(is_reason(loop, answer[1], answer[2]))
                found.append((loop, answer[1]))
        return found

    def longest_walk(self, loop, state, limit):
        """The most turns, limit at most, of walks by any ways that may be gone."""
        if limit == 0:
            return 0
        following = [after(loop, number, state) for number in range(len(loop[1]))]
        return max([1 + self.longest_walk(loop, one, limit - 1) for one in following if one is not None], default=0)

    def test_runs_and_walks(self):
        chance = random.Random(31)
        turned = 0
        for loop, gauge in self.gauged_loops():
            for big in (2, 5, 30, 10 ** 6):
                state = [chance.randint(-big, big) for _ in range(loop[0])]
                most = most_turns(loop, gauge, state)
                turns = len(run(loop, state, 60)) - 1
                self.assertLessEqual(turns, most)
                self.assertLessEqual(self.longest_walk(loop, state, min(most + 1, 5)), most)
                turned += turns
        self.assertGreater(turned, 100)

    def test_each_turn_takes_one_off(self):
        chance = random.Random(32)
        for loop, gauge in self.gauged_loops():
            row, by = gauge
            for big in (2, 30):
                state = [chance.randint(-big, big) for _ in range(loop[0])]
                for _ in range(20):
                    numbers = [number for number, way in enumerate(loop[1]) if may_be_gone(way, state)]
                    if not numbers:
                        break
                    following = after(loop, chance.choice(numbers), state)
                    self.assertGreaterEqual(worth(row, state), 0)
                    self.assertGreaterEqual(worth(row, state) - worth(row, following), by)
                    self.assertLess(most_turns(loop, gauge, following), most_turns(loop, gauge, state))
                    state = following

    def test_a_run_of_as_many_turns_as_told(self):
        loop, gauge = DOWN, GAUGE
        for number in range(-5, 60):
            self.assertEqual(len(run(loop, [number], 60)) - 1, most_turns(loop, gauge, [number]))

    def test_where_there_is_a_gauge_no_run_goes_on_for_ever(self):
        kind, gauge, reason = told((1, [([[1, 0], [-1, 50]], [[1, 1]])]))
        self.assertEqual(kind, "gauge")
        for number in range(-3, 54):
            turns = len(run((1, [([[1, 0], [-1, 50]], [[1, 1]])]), [number], 60)) - 1
            self.assertLessEqual(turns, most_turns((1, [([[1, 0], [-1, 50]], [[1, 1]])]), gauge, [number]))


class InterfaceTest(unittest.TestCase):

    def test_defined_in_its_file(self):
        self.assertEqual(most_turns.__module__, gauges.__name__)

    def test_the_arguments_have_their_names(self):
        self.assertEqual(most_turns(loop=DOWN, gauge=GAUGE, state=[7]), 3)


if __name__ == "__main__":
    unittest.main()
