"""Tests of loopgauge.loops."""

import unittest
from copy import deepcopy

from helpers import NOWHERE, Hostile, HostileList, exchanged, found, holds_itself, largest, places
from loopgauge import loops
from loopgauge.errors import BadCount, BadLoop, BadState
from loopgauge.loops import after, need_loop, run

# One name, goes down by 2 where the number is 3 or more.
DOWN = (1, [([[1, -3]], [[1, -2]])])
# One name, both ways may be gone at 5 and beyond, only the second one below.
EITHER = (1, [([[1, -5]], [[1, -5]]), ([[1, -1]], [[1, -1]])])
# Two names: the first way asks twice, the second one nothing.
PAIR = (2, [([[1, 0, 0], [0, -1, 4]], [[2, 3, 1], [-1, 0, 7]]), ([], [[0, 1, 0], [1, 0, 0]])])
# No asks, and gives what is there.
STILL = (2, [([], [[1, 0, 0], [0, 1, 0]])])
SMALLEST = (1, [([], [[0, 0]])])


# None of these is a number from 0 to whatever.
NO_COUNTS = (
    -1, -10 ** 5000, 10 ** 5000, True, False, None, "", "0", b"0", 0.0, 1.0, [], [0], (), (0,), {},
    Hostile(),
)


def wrong_states(many):
    """Things that are no states of so many names."""
    state = [0] * many
    wrong = [state[:-1], state + [0], tuple(state), None, True, 0, "", "0" * many, {}, set(state)]
    wrong += [{at: 0 for at in range(many)}, range(many), b"0" * many, Hostile(), HostileList(state)]
    for at in range(many):
        for thing in (True, False, None, "0", 0.0, [0], (0,), Hostile(), holds_itself()):
            wrong.append(state[:at] + [thing] + state[at + 1:])
    return wrong


def is_asks(path):
    """Whether the asks of a way stand at a path of a loop."""
    return len(path) == 3 and path[2] == 0


def kind_of(path):
    """What stands at a path of a loop: how deep it is tells, but for how many names there are."""
    if path == (0,):
        return "number"
    return ("loop", "ways", "way", "rows", "row", "number")[len(path)]


class NeedLoopTest(unittest.TestCase):

    def refuse(self, thing):
        with self.assertRaises(BadLoop) as caught:
            need_loop(thing)
        self.assertIs(type(caught.exception), BadLoop)

    def test_none_of_what_is_a_loop(self):
        for loop in (DOWN, EITHER, PAIR, STILL, SMALLEST, largest()):
            with self.subTest(loop=loop):
                self.assertIsNone(need_loop(loop))

    def test_one_to_three_names(self):
        for many in (1, 2, 3):
            row = [0] * (many + 1)
            self.assertIsNone(need_loop((many, [([list(row)], [list(row) for _ in range(many)])])))
        for many in (0, 4, -1):
            row = [0] * (many + 1)
            self.refuse((many, [([list(row)], [list(row) for _ in range(many)])]))
            self.refuse((many, [([], [list(row) for _ in range(many)])]))

    def test_one_to_three_ways(self):
        way = ([], [[0, 0]])
        for ways in (1, 2, 3):
            self.assertIsNone(need_loop((1, [way] * ways)))
        for ways in (0, 4):
            self.refuse((1, [way] * ways))

    def test_none_to_four_asks(self):
        for asks in (0, 1, 2, 3, 4):
            self.assertIsNone(need_loop((1, [([[0, 0]] * asks, [[0, 0]])])))
        self.refuse((1, [([[0, 0]] * 5, [[0, 0]])]))

    def test_a_give_for_each_name(self):
        row = [0, 0, 0]
        self.assertIsNone(need_loop((2, [([], [row, row])])))
        for gives in (0, 1, 3):
            self.refuse((2, [([], [row] * gives)]))

    def test_numbers_from_minus_1000_to_1000(self):
        for number in (-1000, -999, 0, 999, 1000):
            self.assertIsNone(need_loop((1, [([[number, number]], [[number, number]])])))
        for number in (-1001, 1001, -10 ** 30, 10 ** 30):
            for row in ([number, 0], [0, number]):
                self.refuse((1, [([row], [[0, 0]])]))
                self.refuse((1, [([], [row])]))

    def test_a_thing_of_no_place_at_every_place(self):
        for loop in (SMALLEST, PAIR, largest()):
            for path in places(loop):
                for at, thing in enumerate(NOWHERE):
                    with self.subTest(path=path, thing=at):
                        self.refuse(exchanged(loop, path, thing))

    def test_a_thing_of_another_place_at_every_place(self):
        loop, row = largest(), [0, 0, 0, 0]
        way = ([], [row] * 3)
        things = {"number": 1, "row": row, "rows": [row] * 3, "way": way, "ways": [way], "loop": (3, [way])}
        for path in places(loop):
            for kind, thing in things.items():
                if kind == kind_of(path):
                    self.assertIsNone(need_loop(exchanged(loop, path, 3 if path == (0,) else thing)))
                else:
                    with self.subTest(path=path, kind=kind):
                        self.refuse(exchanged(loop, path, thing))

    def test_an_empty_list_at_every_place_but_the_asks(self):
        for loop in (SMALLEST, PAIR, largest()):
            for path in places(loop):
                if is_asks(path):
                    self.assertIsNone(need_loop(exchanged(loop, path, [])))
                else:
                    self.refuse(exchanged(loop, path, []))

    def test_a_list_for_a_tuple_and_a_tuple_for_a_list_at_every_place(self):
        for loop in (SMALLEST, PAIR, largest()):
            for path in places(loop):
                there = found(loop, path)
                if isinstance(there, tuple):
                    self.refuse(exchanged(loop, path, list(there)))
                elif isinstance(there, list):
                    self.refuse(exchanged(loop, path, tuple(there)))

    def test_too_long_and_too_short_at_every_place(self):
        loop = largest()
        for path in places(loop):
            there = found(loop, path)
            if isinstance(there, int):
                continue
            with self.subTest(path=path):
                self.refuse(exchanged(loop, path, there + there[-1:]))
                if not is_asks(path) and len(path) != 1:
                    self.refuse(exchanged(loop, path, there[:-1]))

    def test_how_many_names_has_to_fit(self):
        for many in (1, 2):
            self.refuse(exchanged(largest(), (0,), many))

    def test_the_loop_stays_as_it_was(self):
        loop = largest()
        need_loop(loop)
        self.assertEqual(loop, largest())


class AfterTest(unittest.TestCase):

    def refuse(self, kind, loop, number, state):
        with self.assertRaises(kind) as caught:
            after(loop, number, state)
        self.assertIs(type(caught.exception), kind)

    def test_a_way_that_may_be_gone(self):
        self.assertEqual(after(DOWN, 0, [7]), [5])
        self.assertEqual(after(PAIR, 0, [5, 2]), [2 * 5 + 3 * 2 + 1, -5 + 7])
        self.assertEqual(after(PAIR, 1, [5, 2]), [2, 5])

    def test_three_names(self):
        loop = (3, [([[1, 2, 3, -14]], [[4, 5, 6, 7], [-1, 0, 1, 0], [0, 0, 0, -9]])])
        self.assertEqual(after(loop, 0, [1, 2, 3]), [4 + 10 + 18 + 7, 2, -9])
        self.assertIsNone(after(loop, 0, [1, 2, 2]))

    def test_a_way_that_may_not_be_gone(self):
        self.assertIsNone(after(DOWN, 0, [0]))
        self.assertIsNone(after(DOWN, 0, [-100]))

    def test_an_ask_worth_nought_and_one_worth_less(self):
        self.assertEqual(after(DOWN, 0, [3]), [1])
        self.assertIsNone(after(DOWN, 0, [2]))

    def test_each_ask_counts(self):
        self.assertEqual(after(PAIR, 0, [0, 4]), [13, 7])
        self.assertIsNone(after(PAIR, 0, [-1, 4]))
        self.assertIsNone(after(PAIR, 0, [0, 5]))
        self.assertIsNone(after(PAIR, 0, [-1, 5]))

    def test_a_way_of_no_asks(self):
        for number in (-10 ** 9, -1, 0, 1, 10 ** 9):
            self.assertEqual(after(SMALLEST, 0, [number]), [0])
            self.assertEqual(after(STILL, 0, [number, -number]), [number, -number])

    def test_the_number_tells_the_way(self):
        self.assertEqual(after(EITHER, 0, [9]), [4])
        self.assertEqual(after(EITHER, 1, [9]), [8])
        self.assertIsNone(after(EITHER, 0, [4]))
        self.assertEqual(after(EITHER, 1, [4]), [3])
        self.assertEqual(after(largest(), 2, [0, 0, 0]), [1, 1, 1])

    def test_far_numbers(self):
        far = 10 ** 400
        self.assertEqual(after(DOWN, 0, [far]), [far - 2])
        self.assertIsNone(after(DOWN, 0, [-far]))
        self.assertEqual(after(largest(), 0, [far, far, 7]), [1, 1, 1])
        self.assertIsNone(after(largest(), 0, [far, far + 1, 7]))
        self.assertEqual(after(largest(), 0, [far + 1, far, 7]), [1001, 1001, 1001])

    def test_bad_loop(self):
        for at, thing in enumerate(NOWHERE):
            with self.subTest(thing=at):
                self.refuse(BadLoop, thing, 0, [7])
                self.refuse(BadLoop, (1, [([[1, thing]], [[1, -2]])]), 0, [7])

    def test_bad_count(self):
        for number in NO_COUNTS:
            self.refuse(BadCount, DOWN, number, [7])
            self.refuse(BadCount, largest(), number, [0, 0, 0])
        for loop in (DOWN, PAIR, largest()):
            self.refuse(BadCount, loop, len(loop[1]), [0] * loop[0])

    def test_bad_state(self):
        for loop in (DOWN, PAIR, STILL, SMALLEST, largest()):
            for at, state in enumerate(wrong_states(loop[0])):
                with self.subTest(many=loop[0], state=at):
                    self.refuse(BadState, loop, 0, state)

    def test_the_order_of_refusals(self):
        self.refuse(BadLoop, (1, []), 1, [True])
        self.refuse(BadLoop, (1, []), 1, [7])
        self.refuse(BadLoop, (1, []), 0, [True])
        self.refuse(BadCount, DOWN, 1, [True])
        self.refuse(BadCount, DOWN, None, None)

    def test_nothing_handed_in_is_changed(self):
        for loop, number, state in ((DOWN, 0, [7]), (DOWN, 0, [2]), (PAIR, 0, [5, 2]), (PAIR, 1, [5, 2])):
            loop_before, state_before = deepcopy(loop), deepcopy(state)
            after(loop, number, state)
            self.assertEqual((loop, state), (loop_before, state_before))

    def test_what_is_told_is_a_new_list(self):
        state = [3, 4]
        told = after(STILL, 0, state)
        again = after(STILL, 0, state)
        self.assertIs(type(told), list)
        self.assertEqual(told, state)
        self.assertIsNot(told, state)
        self.assertIsNot(told, again)
        told[0] = 99
        self.assertEqual((state, again, after(STILL, 0, state)), ([3, 4], [3, 4], [3, 4]))

    def test_changes_behind_the_call_change_nothing_told(self):
        loop, state = deepcopy(PAIR), [5, 2]
        told = after(loop, 1, state)
        state[0] = 99
        loop[1][1][1][0][2] = 50
        self.assertEqual(told, [2, 5])
        self.assertEqual(after(loop, 1, [5, 2]), [52, 5])


class RunTest(unittest.TestCase):

    def refuse(self, kind, loop, state, most):
        with self.assertRaises(kind) as caught:
            run(loop, state, most)
        self.assertIs(type(caught.exception), kind)

    def test_the_end_where_none_may_be_gone(self):
        self.assertEqual(run(DOWN, [7], 60), [[7], [5], [3], [1]])
        self.assertEqual(run(DOWN, [2], 60), [[2]])

    def test_the_first_way_that_may_be_gone_is_taken(self):
        self.assertEqual(run(EITHER, [12], 60), [[12], [7], [2], [1], [0]])
        turned = (1, [EITHER[1][1], EITHER[1][0]])
        self.assertEqual(run(turned, [6], 3), [[6], [5], [4], [3]])

    def test_the_third_way_where_it_is_the_first_that_may_be_gone(self):
        never = ([[0, -1]], [[1, 0]])
        loop = (1, [never, never, ([[1, -1]], [[1, -1]])])
        self.assertEqual(run(loop, [2], 60), [[2], [1], [0]])

    def test_the_end_after_most_turns(self):
        self.assertEqual(run(DOWN, [7], 2), [[7], [5], [3]])
        self.assertEqual(run(DOWN, [7], 3), [[7], [5], [3], [1]])
        self.assertEqual(run(DOWN, [7], 4), [[7], [5], [3], [1]])
        self.assertEqual(run(PAIR, [0, 5], 3), [[0, 5], [5, 0], [11, 2], [29, -4]])

    def test_most_of_nought_and_of_sixty(self):
        self.assertEqual(run(DOWN, [7], 0), [[7]])
        self.assertEqual(run(DOWN, [2], 0), [[2]])
        endless = (1, [([], [[1, 1]])])
        self.assertEqual(run(endless, [0], 60), [[number] for number in range(61)])
        self.assertEqual(run(endless, [0], 59), [[number] for number in range(60)])

    def test_numbers_may_go_far(self):
        loop = (1, [([], [[1000, 0]])])
        self.assertEqual(run(loop, [-10 ** 40], 60)[-1], [-10 ** 220])

    def test_bad_loop(self):
        for at, thing in enumerate(NOWHERE):
            with self.subTest(thing=at):
                self.refuse(BadLoop, thing, [7], 1)
                self.refuse(BadLoop, (1, [([[1, thing]], [[1, -2]])]), [7], 1)

    def test_bad_state(self):
        for loop in (DOWN, PAIR, STILL, SMALLEST, largest()):
            for at, state in enumerate(wrong_states(loop[0])):
                with self.subTest(many=loop[0], state=at):
                    self.refuse(BadState, loop, state, 1)
                    self.refuse(BadState, loop, state, 0)

    def test_bad_count(self):
        for most in NO_COUNTS + (61,):
            self.refuse(BadCount, DOWN, [7], most)
            self.refuse(BadCount, DOWN, [2], most)

    def test_the_order_of_refusals(self):
        self.refuse(BadLoop, (1, []), [True], 61)
        self.refuse(BadLoop, (1, []), [7], 61)
        self.refuse(BadLoop, (1, []), [True], 0)
        self.refuse(BadState, DOWN, [True], 61)
        self.refuse(BadState, DOWN, None, None)

    def test_nothing_handed_in_is_changed(self):
        for loop, state in ((DOWN, [7]), (DOWN, [2]), (EITHER, [12]), (PAIR, [0, 5]), (STILL, [1, 2])):
            loop_before, state_before = deepcopy(loop), deepcopy(state)
            run(loop, state, 9)
            self.assertEqual((loop, state), (loop_before, state_before))

    def test_the_first_state_told_is_a_copy(self):
        for most in (0, 1, 60):
            for state in ([7], [2]):
                told = run(DOWN, state, most)
                self.assertEqual(told[0], state)
                self.assertIsNot(told[0], state)

    def test_each_state_told_is_a_list_of_its_own(self):
        told = run(STILL, [1, 2], 60)
        self.assertIs(type(told), list)
        self.assertEqual(told, [[1, 2]] * 61)
        self.assertEqual({type(state) for state in told}, {list})
        self.assertEqual(len({id(state) for state in told}), 61)

    def test_changes_behind_the_call_change_nothing_told(self):
        loop, state = deepcopy(DOWN), [7]
        told = run(loop, state, 60)
        state[0] = 99
        loop[1][0][1][0][1] = -1
        self.assertEqual(told, [[7], [5], [3], [1]])
        self.assertEqual(run(DOWN, [7], 60), told)

    def test_changes_of_what_was_told_change_nothing_asked_later(self):
        state = [7]
        told = run(DOWN, state, 60)
        told[0][0] = 99
        told[1].append(99)
        told.append([99])
        self.assertEqual(state, [7])
        self.assertEqual(run(DOWN, state, 60), [[7], [5], [3], [1]])


class InterfaceTest(unittest.TestCase):

    def test_each_function_is_defined_in_its_file(self):
        for function in (need_loop, after, run):
            self.assertEqual(function.__module__, loops.__name__)

    def test_the_arguments_have_their_names(self):
        self.assertIsNone(need_loop(thing=DOWN))
        self.assertEqual(after(loop=DOWN, number=0, state=[7]), [5])
        self.assertEqual(run(loop=DOWN, state=[7], most=1), [[7], [5]])


if __name__ == "__main__":
    unittest.main()
