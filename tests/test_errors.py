"""Tests of loopgauge.errors."""

import unittest

from loopgauge import errors
from loopgauge.errors import BadCount, BadGauge, BadLoop, BadState, BadTable, BadText, LoopError

REFUSALS = (BadLoop, BadState, BadCount, BadGauge, BadTable, BadText)


class ErrorsTest(unittest.TestCase):

    def test_the_names_are_those_of_the_classes(self):
        names = ["BadLoop", "BadState", "BadCount", "BadGauge", "BadTable", "BadText"]
        self.assertEqual([refusal.__name__ for refusal in REFUSALS], names)
        self.assertEqual(LoopError.__name__, "LoopError")

    def test_each_is_defined_in_its_file(self):
        for kind in (LoopError,) + REFUSALS:
            self.assertEqual(kind.__module__, errors.__name__)

    def test_loop_error_is_straight_under_value_error(self):
        self.assertEqual(LoopError.__bases__, (ValueError,))

    def test_each_refusal_is_straight_under_loop_error(self):
        for refusal in REFUSALS:
            with self.subTest(refusal=refusal.__name__):
                self.assertEqual(refusal.__bases__, (LoopError,))

    def test_each_refusal_is_taken_as_loop_error_and_as_value_error(self):
        for refusal in REFUSALS:
            for kind in (refusal, LoopError, ValueError):
                with self.subTest(refusal=refusal.__name__, kind=kind.__name__):
                    with self.assertRaises(kind):
                        raise refusal("words")

    def test_each_refusal_is_taken_by_none_of_the_other_names(self):
        for refusal in REFUSALS:
            others = tuple(kind for kind in REFUSALS if kind is not refusal)
            with self.subTest(refusal=refusal.__name__):
                with self.assertRaises(refusal):
                    try:
                        raise refusal("words")
                    except others:
                        self.fail("taken by another name")

    def test_loop_error_itself_is_taken_by_none_of_the_refusals(self):
        with self.assertRaises(LoopError):
            try:
                raise LoopError("words")
            except REFUSALS:
                self.fail("taken by another name")


if __name__ == "__main__":
    unittest.main()
