"""The error classes: [5] and excerptcheck/errors.py in the interface."""

import unittest

from excerptcheck import errors

ATTRIBUTES = {
    "InvalidText": {"place": 3},
    "InvalidPattern": {"place": 0},
    "TooManyNodes": {"count": 17},
    "InvalidPipeline": {"errors": ((0, 0, 1, 1), (0, 0, 2, None))},
    "TooComplex": {},
    "NotRead": {"symbol": "Aa"},
    "TooLarge": {"stage": 2},
    "NoDocument": {"many": 5},
    "NotOfKind": {},
    "Unknown": {"name": "pipeline"},
    "TooMany": {},
    "FeeTooLow": {"document": ("Aa", "Ba")},
    "BreaksTerms": {"owner": "A", "document": ("Aa",)},
    "Suspended": {"owner": "B", "document": None},
    "Finished": {},
}


class Errors(unittest.TestCase):
    def test_all_classes_of_the_interface_exist(self):
        for name in ATTRIBUTES:
            with self.subTest(name):
                self.assertTrue(issubclass(getattr(errors, name), errors.ExcerptError))

    def test_the_base_class_is_a_value_error(self):
        self.assertTrue(issubclass(errors.ExcerptError, ValueError))
        self.assertIsNot(errors.ExcerptError, ValueError)

    def test_no_error_is_a_subclass_of_another_one(self):
        for name in ATTRIBUTES:
            for other in ATTRIBUTES:
                if name != other:
                    with self.subTest((name, other)):
                        self.assertFalse(issubclass(getattr(errors, name), getattr(errors, other)))

    def test_attributes_are_set_when_the_error_is_created(self):
        for name, attributes in ATTRIBUTES.items():
            with self.subTest(name):
                made = getattr(errors, name)(**attributes)
                self.assertEqual({word: getattr(made, word) for word in attributes}, attributes)
                self.assertIsInstance(made, ValueError)

    def test_attributes_belong_to_the_object_and_not_to_the_class(self):
        for name, attributes in ATTRIBUTES.items():
            made = getattr(errors, name)(**attributes)
            for word in attributes:
                with self.subTest((name, word)):
                    self.assertIn(word, vars(made))
                    self.assertFalse(hasattr(getattr(errors, name), word))

    def test_attributes_may_be_none_where_the_document_says_so(self):
        self.assertIsNone(errors.TooLarge(stage=None).stage)
        self.assertIsNone(errors.FeeTooLow(document=None).document)
        self.assertIsNone(errors.BreaksTerms(owner="A", document=None).document)
        self.assertIsNone(errors.Suspended(owner="A", document=None).document)

    def test_every_error_can_be_shown(self):
        for name, attributes in ATTRIBUTES.items():
            with self.subTest(name):
                self.assertIsInstance(str(getattr(errors, name)(**attributes)), str)


if __name__ == "__main__":
    unittest.main()
