import inspect
import unittest

from rotstacks import errors

NAMES = (
    "UnknownStack", "EmptyStack", "UnknownPlace", "BadHours", "BadLoss", "BadCount", "HouseFull",
    "DeedsFull", "NothingWaits", "NothingDone", "ShortOrder", "TooManyOrders", "NotGone",
)


class ErrorsTest(unittest.TestCase):
    def test_any_refusal_is_a_value_error(self):
        self.assertTrue(inspect.isclass(errors.RotError))
        self.assertEqual(errors.RotError.__bases__, (ValueError,))

    def test_each_class_is_there_under_its_own_name(self):
        for name in NAMES:
            with self.subTest(name=name):
                refusal = getattr(errors, name)
                self.assertTrue(inspect.isclass(refusal))
                self.assertEqual(refusal.__name__, name)
                self.assertEqual(refusal.__module__, "rotstacks.errors")

    def test_each_class_stands_straight_under_rot_error_alone(self):
        for name in NAMES:
            with self.subTest(name=name):
                refusal = getattr(errors, name)
                self.assertTrue(issubclass(refusal, errors.RotError))
                self.assertTrue(issubclass(refusal, ValueError))
                self.assertEqual(refusal.__bases__, (errors.RotError,))

    def test_none_stands_under_another(self):
        for name in NAMES:
            for other in NAMES:
                if name != other:
                    with self.subTest(name=name, other=other):
                        self.assertFalse(issubclass(getattr(errors, name), getattr(errors, other)))

    def test_there_are_no_other_classes(self):
        classes = [name for name, value in vars(errors).items() if inspect.isclass(value)]
        self.assertEqual(sorted(classes), sorted(NAMES + ("RotError",)))

    def test_each_is_raised_with_free_words_and_taken_as_any_refusal(self):
        for name in NAMES:
            for base in (getattr(errors, name), errors.RotError, ValueError):
                with self.subTest(name=name, base=base.__name__):
                    with self.assertRaises(base) as caught:
                        raise getattr(errors, name)("some words")
                    self.assertEqual(str(caught.exception), "some words")


if __name__ == "__main__":
    unittest.main()
