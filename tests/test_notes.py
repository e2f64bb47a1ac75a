"""Tests of loopgauge.notes."""

import random
import re
import unittest
from copy import deepcopy

from helpers import NOWHERE, Hostile, HostileList, drawn_loop, exchanged, largest, lists_in, numbers_in, places, spoil
from loopgauge import notes
from loopgauge.errors import BadLoop, BadText
from loopgauge.notes import read, written

# Loops and their texts.
TEXTS = (
    ((1, [([], [[0, 0]])]), "names 1\nway\nset 0 0"),
    ((1, [([[1, -3]], [[1, -2]])]), "names 1\nway\nask 1 -3\nset 1 -2"),
    ((1, [([[-1000, 1000]], [[0, -1]]), ([], [[10, 100]]), ([], [[-10, -999]])]),
     "names 1\nway\nask -1000 1000\nset 0 -1\nway\nset 10 100\nway\nset -10 -999"),
    ((2, [([[1, 0, 0], [0, 1, -1]], [[1, -1, 0], [0, 1, 0]])]),
     "names 2\nway\nask 1 0 0\nask 0 1 -1\nset 1 -1 0\nset 0 1 0"),
    ((2, [([], [[1, 2, 3], [4, 5, 6]]), ([[7, 8, 9]], [[-1, -2, -3], [-4, -5, -6]])]),
     "names 2\nway\nset 1 2 3\nset 4 5 6\nway\nask 7 8 9\nset -1 -2 -3\nset -4 -5 -6"),
    ((3, [([[0, 0, 0, 0], [1, 2, 3, 4], [-1000, 0, 1000, 20], [5, 5, 5, 5]],
           [[1, 0, 0, -1], [0, 1, 0, 12], [0, 0, 1, -123]])]),
     "names 3\nway\nask 0 0 0 0\nask 1 2 3 4\nask -1000 0 1000 20\nask 5 5 5 5\n"
     "set 1 0 0 -1\nset 0 1 0 12\nset 0 0 1 -123"),
)

# Lines of which each may stand in a text, but not so, and lines that may not.
NO_TEXTS = (
    "names 1", "names 1\nway", "way\nset 0 0", "set 0 0", "names 1\nset 0 0", "names 1\nask 0 0\nset 0 0",
    "names 1\nset 0 0\nway", "names 1\nway\nway\nset 0 0", "names 1\nway\nset 0 0\nway",
    "names 1\nway\nset 0 0\nask 0 0", "names 1\nway\nset 0 0\nset 0 0", "names 1\nway\nask 0 0",
    "names 2\nway\nset 0 0 0\nask 0 0 0\nset 0 0 0", "names 1\nnames 1\nway\nset 0 0",
    "names 1\nway\nset 0 0\nnames 1", "names 2\nway\nset 0 0", "names 1\nway\nset 0 0 0",
    "names 1\nway\nset 0", "names 1\nway\nset", "names 1\nway 1\nset 0 0", "names 1\nway 0 0\nset 0 0",
    "names\nway\nset 0 0", "names 1 1\nway\nset 0 0", "1\nway\nset 0 0", "names 1\nway\n0 0",
    "names 1\nways\nset 0 0", "names 1\nway\nasks 0 0\nset 0 0", "Names 1\nway\nset 0 0",
    "names 1\nWay\nset 0 0", "names 1\nway\nSET 0 0", "names names 1\nway\nset 0 0",
)

# Every sign that a text may have.
SIGNS = [chr(number) for number in range(32, 127) if chr(number) != "%"] + ["\n", "\t"]

NUMBER = "(?:0|-?(?:[1-9][0-9]{0,2}|1000))"


def is_text(text):
    """Whether a text is one of a loop, by point 11."""
    for many in (1, 2, 3):
        row = f"(?: {NUMBER}){{{many + 1}}}"
        way = f"\nway(?:\nask{row}){{0,4}}(?:\nset{row}){{{many}}}"
        if re.fullmatch(f"names {many}(?:{way}){{1,3}}", text):
            return True
    return False


class NotesCase(unittest.TestCase):

    def refuse(self, text):
        with self.assertRaises(BadText) as caught:
            read(text)
        self.assertIs(type(caught.exception), BadText)

    def judge(self, text):
        """A text is read if it is one of a loop, else refused."""
        if is_text(text):
            self.assertEqual(written(read(text)), text)
        else:
            self.refuse(text)


class WrittenTest(unittest.TestCase):

    def test_texts(self):
        for loop, text in TEXTS:
            with self.subTest(text=text):
                self.assertIs(type(written(loop)), str)
                self.assertEqual(written(loop), text)
                self.assertTrue(is_text(text))

    def test_the_largest_loop(self):
        way = "\nway" + "\nask 1000 -1000 0 1" * 4 + "\nset 1000 -1000 0 1" * 3
        self.assertEqual(written(largest()), "names 3" + way * 3)

    def test_every_number(self):
        for number in range(-1000, 1001):
            self.assertEqual(written((1, [([], [[number, 0]])])), f"names 1\nway\nset {number} 0")

    def test_bad_loop(self):
        way = ([], [[1, 0]])
        for thing in NOWHERE + ((1, []), (1, [way] * 4), (4, [way]), [1, [way]], (1, [([[1, 0]] * 5, [[1, 0]])]),
                                (1, [([], [[1001, 0]])]), "names 1\nway\nset 0 0"):
            with self.assertRaises(BadLoop) as caught:
                written(thing)
            self.assertIs(type(caught.exception), BadLoop)

    def test_bad_loop_of_a_thing_at_every_place(self):
        for loop, text in TEXTS[:4]:
            for path in places(loop):
                for thing in NOWHERE:
                    with self.assertRaises(BadLoop):
                        written(exchanged(loop, path, thing))

    def test_the_loop_stays(self):
        for loop, text in TEXTS:
            before = deepcopy(loop)
            written(loop)
            self.assertEqual(loop, before)


class ReadTest(NotesCase):

    def test_texts(self):
        for loop, text in TEXTS:
            with self.subTest(text=text):
                told = read(text)
                self.assertEqual(told, loop)
                self.assertIs(type(told), tuple)
                self.assertEqual([type(way) for way in told[1]], [tuple] * len(loop[1]))
                for path in numbers_in(loop):
                    number = told
                    for at in path:
                        number = number[at]
                    self.assertIs(type(number), int)

    def test_what_is_written_is_read_to_the_same_loop(self):
        chance = random.Random(40)
        for _ in range(400):
            loop = drawn_loop(chance, chance.randint(1, 3), chance.randint(1, 3), chance.choice([1, 12, 1000]))
            self.assertEqual(read(written(loop)), loop)
        self.assertEqual(read(written(largest())), largest())

    def test_every_number(self):
        for number in range(-1000, 1001):
            self.assertEqual(read(f"names 1\nway\nset {number} 0"), (1, [([], [[number, 0]])]))

    def test_lists_of_its_own(self):
        for loop, text in TEXTS:
            told, again = read(text), read(text)
            lists = [id(part) for part in lists_in((loop, told, again))]
            self.assertEqual(len(set(lists)), len(lists))
            spoil(told)
            self.assertEqual(again, loop)
            self.assertEqual(read(text), loop)


class BadTextTest(NotesCase):

    def test_one_sign_put_in_left_out_or_written_over(self):
        for loop, text in TEXTS:
            for at in range(len(text) + 1):
                for sign in SIGNS:
                    self.judge(text[:at] + sign + text[at:])
                    self.judge(text[:at] + sign + text[at + 1:])
                self.judge(text[:at] + text[at + 1:])

    def test_a_line_left_out_told_twice_or_exchanged_with_the_next_one(self):
        for loop, text in TEXTS:
            lines = text.split("\n")
            for at in range(len(lines)):
                self.judge("\n".join(lines[:at] + lines[at + 1:]))
                self.judge("\n".join(lines[:at] + [lines[at]] + lines[at:]))
                self.judge("\n".join(lines[:at] + lines[at:at + 2][::-1] + lines[at + 2:]))

    def test_lines_that_fit_nowhere(self):
        for text in NO_TEXTS:
            with self.subTest(text=text):
                self.refuse(text)

    def test_numbers_that_are_written_otherwise(self):
        for number in ("00", "01", "-0", "+0", "+1", "-01", "--1", "-", "", "1.0", "1e2", "0x1", "1_0", "1001", "-1001",
                       "10000", "01000", "-01000", "9" * 5000, "-" + "9" * 5000, "0" * 5000, "None", "True", "one",
                       "1-", "1 ", " 1"):
            with self.subTest(number=number[:9]):
                self.refuse(f"names 1\nway\nset {number} 0")
                self.refuse(f"names 1\nway\nset 0 {number}")
                self.refuse(f"names 1\nway\nask {number} 0\nset 0 0")

    def test_figures_of_other_scripts(self):
        for figure in ("\u0661", "\u00b2", "\uff11", "\u0967"):
            self.refuse(f"names 1\nway\nset {figure} 0")
            self.refuse(f"names {figure}\nway\nset 0 0")

    def test_how_many_names(self):
        for many in ("0", "4", "-1", "01", "+1", "-0", "10", "1.0", "", " 1", "1 ", "one", "9" * 5000):
            row = " 0" * 5
            self.refuse(f"names {many}\nway\nset 0 0")
            self.refuse(f"names {many}\nway\nset{row}\nset{row}\nset{row}\nset{row}")
            self.refuse(f"names {many}\nway")

    def test_four_ways_and_five_asks(self):
        way = "\nway\nset 0 0"
        self.assertEqual(len(read("names 1" + way * 3)[1]), 3)
        self.refuse("names 1" + way * 4)
        self.assertEqual(len(read("names 1\nway" + "\nask 1 1" * 4 + "\nset 0 0")[1][0][0]), 4)
        self.refuse("names 1\nway" + "\nask 1 1" * 5 + "\nset 0 0")

    def test_blanks_tabs_and_line_ends(self):
        for loop, text in TEXTS:
            for other in (text + " ", text + "\n", text + "\t", " " + text, "\n" + text, text + "\n\n",
                          text.replace(" ", "  ", 1), text.replace(" ", "\t", 1), text.replace("\n", "\n\n", 1),
                          text.replace("\n", " \n", 1), text.replace("\n", "\r\n"), text.replace("\n", "\r"),
                          text.replace("\n", " "), text.replace("\n", ""), text.replace(" ", ""),
                          text.replace("\n", "\x0b"), text.replace("\n", "\u2028"), text.replace(" ", "\u00a0")):
                self.refuse(other)

    def test_empty_texts(self):
        for text in ("", " ", "\n", "\t", "\n\n", "-", "0", "names", "way", "names ", "names 1\n"):
            self.refuse(text)

    def test_what_is_no_text(self):
        for loop, text in TEXTS:
            data = text.encode()
            for thing in (data, bytearray(data), [text], (text,), text.split("\n"), {text: text}, loop):
                self.refuse(thing)
        for thing in (None, True, False, 0, 1, 1.0, b"", [], (), {}, set(), str, Hostile(), HostileList()):
            self.refuse(thing)


class InterfaceTest(unittest.TestCase):

    def test_defined_in_its_file(self):
        for function in (written, read):
            self.assertEqual(function.__module__, notes.__name__)

    def test_the_arguments_have_their_names(self):
        loop, text = TEXTS[0]
        self.assertEqual(written(loop=loop), text)
        self.assertEqual(read(text=text), loop)


if __name__ == "__main__":
    unittest.main()
