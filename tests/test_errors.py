import unittest

from askedthen import errors

WITH_ATTRIBUTE = {
    "InvalidArgument": ("name", "schema"),
    "BadQuestion": ("reason", "form"),
    "BadPaper": ("place", 3),
    "BadWish": ("place", 0),
    "NoSuchDeed": ("number", 17),
}
WITHOUT = ["Unknown", "TooManyDeeds"]


class Errors(unittest.TestCase):
    def test_base_classes(self):
        self.assertEqual(errors.AskError.__bases__, (ValueError,))
        for name in list(WITH_ATTRIBUTE) + WITHOUT:
            self.assertEqual(getattr(errors, name).__bases__, (errors.AskError,), name)

    def test_none_is_a_base_class_of_another_one(self):
        names = list(WITH_ATTRIBUTE) + WITHOUT
        for one in names:
            for other in names:
                if one != other:
                    self.assertFalse(issubclass(getattr(errors, one), getattr(errors, other)))

    def test_attributes(self):
        for name, (attribute, value) in WITH_ATTRIBUTE.items():
            error = getattr(errors, name)(value)
            self.assertEqual(getattr(error, attribute), value)
            self.assertIs(type(getattr(error, attribute)), type(value))

    def test_attributes_can_be_anything(self):
        for name, (attribute, _) in WITH_ATTRIBUTE.items():
            for value in (None, -1, "x", [1]):
                self.assertIs(getattr(getattr(errors, name)(value), attribute), value)

    def test_one_argument(self):
        for name in WITH_ATTRIBUTE:
            with self.assertRaises(TypeError):
                getattr(errors, name)()
            with self.assertRaises(TypeError):
                getattr(errors, name)(1, 2)

    def test_without_attributes(self):
        for name in WITHOUT:
            error = getattr(errors, name)()
            self.assertEqual(vars(error), {})

    def test_raised_and_caught(self):
        for name, (attribute, value) in WITH_ATTRIBUTE.items():
            with self.assertRaises(errors.AskError) as caught:
                raise getattr(errors, name)(value)
            self.assertEqual(getattr(caught.exception, attribute), value)
            self.assertIsInstance(str(caught.exception), str)
        for name in WITHOUT:
            with self.assertRaises(ValueError):
                raise getattr(errors, name)()


if __name__ == "__main__":
    unittest.main()
