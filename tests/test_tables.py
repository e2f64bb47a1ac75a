"""Tests of loopgauge.tables."""

import random
import unittest
from copy import deepcopy

from helpers import FOREIGN, Hostile, HostileList, exchanged, lists_in, numbers_in, places, spoil
from loopgauge import tables
from loopgauge.errors import BadTable
from loopgauge.tables import solved

# Each with what is told of it: an answer or weights. Never both are there.
TABLES = (
    ("answer", [[1, 1], [1, -1]], [4, 2], 0),
    ("weights", [[1, 1], [1, -1]], [2, 4], 0),
    ("weights", [[1, 1], [1, -1]], [2, 4], 1),
    ("answer", [[1, 1], [1, -1]], [2, 4], 2),
    ("answer", [[2, 0], [0, 3]], [1, 1], 0),
    ("answer", [[1, 2, 3]], [7], 0),
    ("weights", [[1, 2, 3]], [-7], 0),
    ("answer", [[1, 2, 3]], [-7], 1),
    ("weights", [[0, 2, 3]], [-7], 1),
    ("answer", [[0, 2, 3]], [-7], 2),
    ("weights", [[1], [1]], [1, 2], 0),
    ("weights", [[1], [1]], [1, 2], 1),
    ("answer", [[1], [1], [1]], [2, 2, 2], 0),
    # The first place is not free: only the ones from the first on may be.
    ("answer", [[1, 0], [0, 1]], [-1, 1], 1),
    ("weights", [[1, 0], [0, 1]], [1, -1], 1),
    # A line that is the sum of two others, with what fits and what does not.
    ("answer", [[1, 2, 0], [0, 1, 5], [1, 3, 5]], [3, 6, 9], 0),
    ("weights", [[1, 2, 0], [0, 1, 5], [1, 3, 5]], [3, 6, 10], 0),
    ("weights", [[1, 2, 0], [0, 1, 5], [1, 3, 5]], [3, 6, 8], 3),
    ("answer", [[1, 2, 0], [0, 1, 5], [1, 3, 5]], [-3, 6, 3], 3),
    # Lines of noughts.
    ("answer", [[0, 0]], [0], 0),
    ("weights", [[0, 0]], [1], 0),
    ("weights", [[0, 0]], [-1], 2),
    ("answer", [[0, 0], [1, 1], [0, 0]], [0, 5, 0], 0),
    ("weights", [[0, 0], [1, 1], [0, 0]], [0, 5, -1], 1),
)

# In these the steps go round for ever, if the first of several rows that let
# a number grow equally far is taken: so by the steps that are taken here, and
# the last one if the place is taken where the lack is largest.
ROUND = (
    [[1, 2, 2, -3, -2, 0, 2], [-3, 2, -2, 2, -1, -3, -3], [2, 0, -1, 1, 0, 1, 2], [3, 0, -3, 3, -1, 3, 0]],
    [[2, 2, -3, 0, 2, -2, -1], [-2, -1, -3, 1, 1, -1, 3], [-2, 0, -2, 3, -3, 0, 1], [1, -2, 3, -1, -1, -2, 0]],
    [[3, 1, -3, -3, 2, -2, 1], [-2, -1, 0, -1, -1, -2, 2], [-3, 3, 0, 1, -3, -1, 0], [-1, -1, -1, 1, 2, 1, -1]],
    [[23, -12, 2, 8, -40, 18, 14], [-32, 29, -8, 7, -20, 12, -33], [-29, 0, 11, 9, 23, 37, -17],
     [8, -20, 12, 1, 29, -9, 21]],
)


def product(line, numbers):
    total = 0
    for at in range(len(line)):
        total += line[at] * numbers[at]
    return total


def drawn_table(chance, lines, length, big):
    """A table; of half of them it is sure that they have an answer."""
    rows = [[chance.choice([0, chance.randint(-big, big)]) for _ in range(length)] for _ in range(lines)]
    free = chance.randint(0, length)
    if chance.random() < 0.3 and lines > 2:
        rows[2] = [one + other for one, other in zip(rows[0], rows[1])]
    if chance.random() < 0.5:
        return rows, [chance.choice([0, chance.randint(-big, big)]) for _ in rows], free
    numbers = [chance.randint(-9, 9) if at < free else chance.choice([0, 0, 4]) for at in range(length)]
    return rows, [product(row, numbers) for row in rows], free


class TableCase(unittest.TestCase):

    def hold(self, told, lines, wanted, free):
        """What is told is put in line by line."""
        self.assertIs(type(told), tuple)
        self.assertIs(type(told[0]), str)
        self.assertIs(type(told[1]), list)
        for number in [*told[1], *told[2:]]:
            self.assertIs(type(number), int)
        length = len(lines[0])
        if told[0] == "answer":
            kind, numbers, by = told
            self.assertGreaterEqual(by, 1)
            self.assertEqual(len(numbers), length)
            self.assertGreaterEqual(min(numbers[free:], default=0), 0)
            for line, wish in zip(lines, wanted):
                self.assertEqual(product(line, numbers), wish * by)
        else:
            kind, numbers = told
            self.assertEqual(kind, "weights")
            self.assertEqual(len(numbers), len(lines))
            for at in range(length):
                total = product([line[at] for line in lines], numbers)
                self.assertTrue(total == 0 if at < free else total <= 0)
            self.assertGreater(product(wanted, numbers), 0)


class SolvedTest(TableCase):

    def ask(self, kind, lines, wanted, free):
        told = solved(lines, wanted, free)
        self.assertEqual(told[0], kind)
        self.hold(told, lines, wanted, free)

    def test_ordinary_tables(self):
        for kind, lines, wanted, free in TABLES:
            with self.subTest(lines=lines, wanted=wanted, free=free):
                self.ask(kind, lines, wanted, free)

    def test_the_only_answer_there_is(self):
        self.assertEqual([3 * told for told in solved([[3]], [2], 0)[1]], [2 * solved([[3]], [2], 0)[2]])
        kind, numbers, by = solved([[1, 1], [1, -1]], [4, 2], 0)
        self.assertEqual((kind, numbers), ("answer", [3 * by, by]))
        kind, numbers, by = solved([[2, 1], [1, 1]], [1, 3], 2)
        self.assertEqual((kind, numbers), ("answer", [-2 * by, 5 * by]))

    def test_none_some_and_all_places_free(self):
        # What is wanted is the answer: below 0 it may be at the free places only.
        for below in range(4):
            wanted = [-1 if at == below else 1 for at in range(4)]
            lines = [[int(at == k) for k in range(4)] for at in range(4)]
            for free in range(5):
                self.ask("answer" if below < free else "weights", lines, wanted, free)

    def test_one_line_and_one_place(self):
        for number in (-10 ** 40, -2, -1, 0, 1, 2, 10 ** 40):
            for wish in (-10 ** 40, -3, -1, 0, 1, 3, 10 ** 40):
                for free in (0, 1):
                    there = wish == 0 or number != 0 and (free or wish * number > 0)
                    self.ask("answer" if there else "weights", [[number]], [wish], free)

    def test_forty_lines_and_sixty_places(self):
        chance = random.Random(10)
        for free in (0, 25, 60):
            lines = [[chance.randint(-9, 9) for _ in range(60)] for _ in range(40)]
            numbers = [chance.choice([0, 5, 7]) for _ in range(60)]
            wanted = [product(line, numbers) for line in lines]
            self.ask("answer", lines, wanted, free)
            # The last line is the sum of all others but one, and one more is wanted.
            lines[39] = [sum(line[at] for line in lines[1:39]) for at in range(60)]
            wanted[39] = sum(wanted[1:39]) + 1
            self.ask("weights", lines, wanted, free)
            wanted = [0] * 39 + [1]
            self.hold(solved(lines, wanted, free), lines, wanted, free)

    def test_forty_lines_of_one_place_and_one_line_of_sixty(self):
        for wish in (0, 7):
            self.ask("answer", [[1]] * 40, [wish] * 40, 0)
            self.ask("answer", [[1] * 60], [wish], 0)
        self.ask("weights", [[1]] * 40, [1] * 39 + [2], 1)
        self.ask("weights", [[1] * 60], [-1], 0)
        self.ask("answer", [[1] * 60], [-1], 60)
        self.ask("weights", [[0] * 60] * 40, [0] * 39 + [1], 60)
        self.ask("answer", [[0] * 60] * 40, [0] * 40, 0)

    def test_far_numbers(self):
        far = 10 ** 60
        self.ask("answer", [[far, 1 - far], [far + 1, 7]], [far * far, 3 * far * far], 2)
        self.ask("answer", [[far, 1], [far + 1, 1]], [2 * far, 2 * far + 2], 0)
        self.ask("weights", [[far, 1], [far + 1, 1]], [2 * far + 1, 2 * far], 0)
        self.ask("weights", [[far, far - 1], [2 * far, 2 * far - 2]], [far, 2 * far + 1], 2)
        self.ask("answer", [[10 ** 5000]], [1], 0)
        chance = random.Random(11)
        for _ in range(20):
            lines, wanted, free = drawn_table(chance, 12, 14, 10 ** 25)
            self.hold(solved(lines, wanted, free), lines, wanted, free)

    def test_exact_where_one_in_many_counts(self):
        far = 10 ** 30
        self.ask("answer", [[far, -far - 1], [1, -1]], [-1, 0], 0)
        self.ask("weights", [[far, -far], [1, -1]], [1, 0], 0)

    def test_wanted_all_noughts(self):
        chance = random.Random(12)
        for _ in range(100):
            lines, wanted, free = drawn_table(chance, chance.randint(1, 6), chance.randint(1, 6), 3)
            self.ask("answer", lines, [0] * len(lines), free)

    def test_steps_that_would_go_round(self):
        wanted = [0, 0, 0, 1]
        for lines in ROUND:
            for free in range(8):
                self.hold(solved(lines, wanted, free), lines, wanted, free)

    def test_steps_that_would_be_too_many(self):
        # By Klee and Minty: a way over 2 to the 29 corners, where the largest number is followed.
        lines, wanted = [], []
        for at in range(29):
            line = [2 * 10 ** (at - k) for k in range(at)] + [1] + [0] * (28 - at)
            lines.append(line + [int(k == at) for k in range(29)])
            wanted.append(100 ** at)
        lines.append([10 ** (28 - at) for at in range(29)] + [0] * 29)
        for more, kind in ((0, "answer"), (-1, "answer"), (1, "weights")):
            self.ask(kind, lines, wanted + [100 ** 28 + more], 0)

    def test_drawn_tables(self):
        chance = random.Random(13)
        kinds = {"answer": 0, "weights": 0}
        for _ in range(2000):
            big = chance.choice([1, 2, 9, 1000])
            lines, wanted, free = drawn_table(chance, chance.randint(1, 6), chance.randint(1, 7), big)
            told = solved(lines, wanted, free)
            self.hold(told, lines, wanted, free)
            kinds[told[0]] += 1
        self.assertGreater(min(kinds.values()), 200)

    def test_tables_mostly_of_noughts(self):
        chance = random.Random(14)
        for _ in range(60):
            lines = [[chance.choice([0, 0, 0, 1, -1]) for _ in range(20)] for _ in range(15)]
            wanted = [0] * 14 + [1]
            self.hold(solved(lines, wanted, 3), lines, wanted, 3)

    def test_nothing_handed_in_is_changed(self):
        for kind, lines, wanted, free in TABLES:
            before = deepcopy((lines, wanted))
            told = solved(lines, wanted, free)
            self.assertEqual((lines, wanted), before)
            for part in lists_in((lines, wanted)):
                self.assertIsNot(part, told[1])

    def test_what_was_told_being_changed_it_is_right_again(self):
        for kind, lines, wanted, free in TABLES:
            told = solved(lines, wanted, free)
            again = solved(lines, wanted, free)
            before = deepcopy(again)
            spoil(told)
            self.assertEqual(again, before)
            self.ask(kind, lines, wanted, free)

    def test_changes_behind_the_call_change_nothing_told(self):
        for kind, lines, wanted, free in TABLES:
            lines, wanted = deepcopy(lines), list(wanted)
            told = solved(lines, wanted, free)
            before = deepcopy(told)
            spoil((lines, wanted))
            self.assertEqual(told, before)


class BadTableTest(unittest.TestCase):

    LINES = [[1, 2, 3], [4, 5, 6]]

    def refuse(self, lines, wanted, free):
        with self.assertRaises(BadTable) as caught:
            solved(lines, wanted, free)
        self.assertIs(type(caught.exception), BadTable)

    def test_a_thing_exchanged_at_every_place(self):
        for kind, lines, wanted, free in TABLES[:8] + (("answer", [[0]], [0], 0),):
            table = (lines, wanted, free)
            for path in places(table):
                if not path:
                    continue
                for at, thing in enumerate(FOREIGN):
                    with self.subTest(table=table, path=path, thing=at):
                        self.refuse(*exchanged(table, path, thing))

    def test_a_list_for_a_number_and_a_number_for_a_list(self):
        table = (self.LINES, [1, 2], 1)
        for path in places(table):
            if path in numbers_in(table):
                self.refuse(*exchanged(table, path, [1]))
            elif path:
                self.refuse(*exchanged(table, path, 1))

    def test_tuples_for_lists(self):
        self.refuse(tuple(self.LINES), [1, 2], 0)
        self.refuse([tuple(line) for line in self.LINES], [1, 2], 0)
        self.refuse(self.LINES, (1, 2), 0)
        self.refuse(iter(self.LINES), [1, 2], 0)
        self.refuse(HostileList(self.LINES), [1, 2], 0)

    def test_how_many_lines(self):
        self.refuse([], [], 0)
        self.refuse([[1]] * 41, [1] * 41, 0)
        self.assertEqual(solved([[1]] * 40, [1] * 40, 0)[0], "answer")

    def test_how_long_the_lines_are(self):
        self.refuse([[]], [0], 0)
        self.refuse([[], []], [0, 0], 0)
        self.refuse([[1] * 61], [1], 0)
        self.assertEqual(solved([[1] * 60], [1], 0)[0], "answer")

    def test_lines_of_unlike_lengths(self):
        for lines in ([[1, 2], [1]], [[1], [1, 2]], [[1, 2], []], [[], [1, 2]], [[1, 2], [1, 2], [1, 2, 3]]):
            self.refuse(lines, [0] * len(lines), 0)

    def test_what_is_wanted(self):
        for wanted in ([], [1], [1, 2, 3], (1, 2), None, 1, "12", {0: 1, 1: 2}, [[1, 2]], Hostile()):
            self.refuse(self.LINES, wanted, 0)

    def test_how_many_are_free(self):
        for free in (-1, 4, 61, -10 ** 5000, 10 ** 5000, True, False, None, "1", "", 1.0, [1], (1,), Hostile()):
            self.refuse(self.LINES, [1, 2], free)
        for free in (0, 1, 2, 3):
            self.assertEqual(len(solved(self.LINES, [1, 2], free)[1]), 3)

    def test_all_of_it_wrong(self):
        for at, thing in enumerate(FOREIGN):
            with self.subTest(thing=at):
                self.refuse(thing, thing, thing)

    def test_nothing_refused_is_changed(self):
        lines, wanted = [[1, 2], [3, True]], [1, 2]
        self.refuse(lines, wanted, 0)
        self.assertEqual((lines, wanted), ([[1, 2], [3, True]], [1, 2]))
        self.assertIs(lines[1][1], True)


class InterfaceTest(unittest.TestCase):

    def test_defined_in_its_file(self):
        self.assertEqual(solved.__module__, tables.__name__)

    def test_the_arguments_have_their_names(self):
        self.assertEqual(solved(lines=[[1]], wanted=[1], free=0)[0], "answer")


if __name__ == "__main__":
    unittest.main()
