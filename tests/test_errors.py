import inspect
import unittest

from eventsteps import errors
from eventsteps.errors import BenchError, LineError, ModelError, StepError

OTHERS = (ModelError, LineError, BenchError)


class ErrorsTest(unittest.TestCase):
    def test_step_error_is_a_value_error(self):
        self.assertEqual(StepError.__bases__, (ValueError,))

    def test_the_others_are_step_errors(self):
        for error in OTHERS:
            with self.subTest(error.__name__):
                self.assertTrue(issubclass(error, StepError))
                self.assertIsNot(error, StepError)

    def test_none_of_the_others_is_a_base_class_of_another_one(self):
        for error in OTHERS:
            for other in OTHERS:
                with self.subTest(error=error.__name__, other=other.__name__):
                    self.assertEqual(issubclass(error, other), error is other)

    def test_model_error_has_what_and_place(self):
        error = ModelError("wrong name", 3)
        self.assertEqual((error.what, error.place), ("wrong name", 3))

    def test_line_error_has_what_and_line(self):
        error = LineError("not understood", 2)
        self.assertEqual((error.what, error.line), ("not understood", 2))

    def test_bench_error_has_what(self):
        self.assertEqual(BenchError("past").what, "past")

    def test_each_error_takes_exactly_its_attributes(self):
        for error, many in ((ModelError, 2), (LineError, 2), (BenchError, 1)):
            with self.subTest(error.__name__):
                error(*["a"] * many)
                for wrong in (many - 1, many + 1):
                    with self.assertRaises(TypeError):
                        error(*["a"] * wrong)

    def test_the_attributes_belong_to_each_object(self):
        first, second = ModelError("wrong name", 0), ModelError("wrong room", 1)
        self.assertEqual((first.what, first.place), ("wrong name", 0))
        self.assertEqual((second.what, second.place), ("wrong room", 1))

    def test_the_errors_are_raised_and_caught_as_step_errors(self):
        for error in (StepError(), ModelError("a", 0), LineError("a", 1), BenchError("a")):
            with self.subTest(type(error).__name__):
                with self.assertRaises(StepError) as caught:
                    raise error
                self.assertIs(caught.exception, error)

    def test_the_classes_are_defined_here(self):
        for error in (StepError,) + OTHERS:
            with self.subTest(error.__name__):
                self.assertEqual(error.__module__, errors.__name__)
                self.assertTrue(inspect.isclass(error))


if __name__ == "__main__":
    unittest.main()
