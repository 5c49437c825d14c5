"""The error classes of the interface: their base classes, how they are made, their fields."""

import unittest

from sameticks import errors

WITHOUT_FIELDS = (
    "BadProgram", "BadContext", "BadFrame", "NoSuchProfile", "NoSuchPlace", "NoSuchTask",
    "TooManyStarts", "NoSuchName", "NameTaken", "TooMuch",
)
WITH_FIELDS = ("FaultyText", "Unlike")


def class_of(name):
    return getattr(errors, name)


class ErrorClasses(unittest.TestCase):

    def test_the_base_class_is_a_value_error(self):
        self.assertTrue(issubclass(errors.TickError, ValueError))

    def test_each_class_is_directly_under_the_base_class(self):
        for name in WITHOUT_FIELDS + WITH_FIELDS:
            with self.subTest(name):
                self.assertEqual(class_of(name).__bases__, (errors.TickError,))

    def test_each_class_is_defined_in_this_module_under_its_name(self):
        for name in WITHOUT_FIELDS + WITH_FIELDS + ("TickError",):
            with self.subTest(name):
                self.assertEqual(class_of(name).__module__, "sameticks.errors")
                self.assertEqual(class_of(name).__name__, name)

    def test_only_the_base_class_has_another_one_under_it(self):
        names = WITHOUT_FIELDS + WITH_FIELDS
        for name in names:
            for under in names:
                if name != under:
                    with self.subTest(f"{under} under {name}"):
                        self.assertFalse(issubclass(class_of(under), class_of(name)))

    def test_each_class_without_fields_is_made_without_arguments(self):
        for name in WITHOUT_FIELDS:
            with self.subTest(name):
                error = class_of(name)()
                self.assertEqual(vars(error), {})
                with self.assertRaises(errors.TickError) as caught:
                    raise error
                self.assertIs(caught.exception, error)

    def test_faulty_text_has_its_token(self):
        self.assertEqual(errors.FaultyText(3).token, 3)
        self.assertEqual(errors.FaultyText(token=12).token, 12)
        with self.assertRaises(TypeError):
            errors.FaultyText()

    def test_unlike_has_its_context_and_what_is_said(self):
        context = ((("start", 1, "a"),),)
        for error in (
            errors.Unlike(context, ("x",), ("x", "y")),
            errors.Unlike(other=("x", "y"), one=("x",), context=context),
        ):
            self.assertEqual(error.context, context)
            self.assertEqual(error.one, ("x",))
            self.assertEqual(error.other, ("x", "y"))
        with self.assertRaises(TypeError):
            errors.Unlike(context, ("x",))

    def test_each_error_has_its_own_fields(self):
        first = errors.FaultyText(1)
        second = errors.FaultyText(2)
        self.assertEqual((first.token, second.token), (1, 2))
        self.assertFalse(hasattr(errors.FaultyText, "token"))


if __name__ == "__main__":
    unittest.main()
