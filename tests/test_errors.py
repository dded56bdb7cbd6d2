"""Point 8 and the interface of thenbeside.errors."""

import unittest

from thenbeside.errors import BadValue, NotPossible, PlanError, TextError, TooLarge

BELOW = (BadValue, TooLarge, NotPossible, TextError)


class ErrorsTest(unittest.TestCase):
    def test_base_is_a_value_error(self):
        self.assertEqual(PlanError.__bases__, (ValueError,))

    def test_all_others_stand_directly_below_the_base(self):
        for kind in BELOW:
            self.assertEqual(kind.__bases__, (PlanError,))

    def test_none_below_the_base_is_a_subclass_of_another_one(self):
        for kind in BELOW:
            for other in BELOW:
                self.assertEqual(issubclass(kind, other), kind is other)

    def test_one_word_is_kept(self):
        self.assertEqual(BadValue("plan").name, "plan")
        self.assertEqual(TooLarge("tasks").what, "tasks")
        self.assertEqual(NotPossible("contradictory").why, "contradictory")

    def test_column_and_words_are_kept(self):
        error = TextError(11, "a task is missing")
        self.assertEqual((error.column, error.words), (11, "a task is missing"))

    def test_attributes_are_those_of_the_object(self):
        first, second = BadValue("plan"), BadValue("row")
        self.assertEqual((first.name, second.name), ("plan", "row"))
        self.assertEqual(vars(first), {"name": "plan"})
        self.assertEqual(vars(TooLarge("tasks")), {"what": "tasks"})
        self.assertEqual(vars(NotPossible("many")), {"why": "many"})
        self.assertEqual(vars(TextError(1, "x")), {"column": 1, "words": "x"})

    def test_each_is_caught_as_plan_error_and_as_value_error(self):
        for error in (BadValue("x"), TooLarge("x"), NotPossible("x"), TextError(1, "x")):
            for kind in (PlanError, ValueError):
                with self.assertRaises(kind):
                    raise error


if __name__ == "__main__":
    unittest.main()
