import unittest

from keepsort import errors

BASES = {"SortError": ValueError, "FindError": LookupError, "LimitError": ArithmeticError}

# name: (base class, attribute)
CLASSES = {
    "InvalidPlan": ("SortError", "index"),
    "InvalidKind": ("SortError", "kind"),
    "InvalidFilling": ("SortError", "index"),
    "InvalidNumber": ("SortError", "number"),
    "InvalidWord": ("SortError", "index"),
    "InvalidProgram": ("SortError", "index"),
    "InvalidText": ("SortError", "text"),
    "InvalidLengths": ("SortError", "index"),
    "InvalidTable": ("SortError", "index"),
    "InvalidRecord": ("SortError", "index"),
    "InvalidCell": ("SortError", "cell"),
    "InvalidValue": ("SortError", "value"),
    "InvalidEdit": ("SortError", "index"),
    "InvalidCommand": ("SortError", "line"),
    "OtherValues": ("FindError", None),
    "UnknownName": ("FindError", "name"),
    "NoOrder": ("FindError", None),
    "ValueTaken": ("FindError", "value"),
    "NothingToUndo": ("FindError", None),
    "TooManyCells": ("LimitError", "count"),
    "TooManyEdits": ("LimitError", "count"),
}

VALUES = (0, 3, None, True, "R", (0, 1), [1, 2], {"a": 1})


class ErrorsTest(unittest.TestCase):
    def test_bases_have_only_pythons_own_base(self):
        for name, own in BASES.items():
            with self.subTest(name=name):
                self.assertEqual(getattr(errors, name).__bases__, (own,))
                with self.assertRaises(own):
                    raise getattr(errors, name)()

    def test_each_class_has_only_its_base(self):
        for name, (base, attribute) in CLASSES.items():
            with self.subTest(name=name):
                self.assertEqual(getattr(errors, name).__bases__, (getattr(errors, base),))
                self.assertTrue(issubclass(getattr(errors, name), BASES[base]))

    def test_each_class_is_of_no_other_error_class(self):
        for name, (base, attribute) in CLASSES.items():
            for other in list(BASES) + list(CLASSES):
                with self.subTest(name=name, other=other):
                    related = issubclass(getattr(errors, name), getattr(errors, other))
                    self.assertEqual(related, other in (name, base))

    def test_attribute_by_position_and_by_name(self):
        for name, (base, attribute) in CLASSES.items():
            if attribute is None:
                continue
            for value in VALUES:
                with self.subTest(name=name, value=value):
                    by_position = getattr(errors, name)(value)
                    by_name = getattr(errors, name)(**{attribute: value})
                    self.assertIs(getattr(by_position, attribute), value)
                    self.assertIs(getattr(by_name, attribute), value)

    def test_classes_without_attribute_are_created_with_nothing(self):
        for name, (base, attribute) in CLASSES.items():
            if attribute is None:
                with self.subTest(name=name):
                    self.assertIsInstance(getattr(errors, name)(), getattr(errors, base))

    def test_raised_and_caught_by_each_base(self):
        for name, (base, attribute) in CLASSES.items():
            passed = {} if attribute is None else {attribute: 5}
            for caught in (getattr(errors, base), BASES[base]):
                with self.subTest(name=name, caught=caught):
                    with self.assertRaises(caught) as held:
                        raise getattr(errors, name)(**passed)
                    self.assertIs(type(held.exception), getattr(errors, name))
                    if attribute is not None:
                        self.assertEqual(getattr(held.exception, attribute), 5)


if __name__ == "__main__":
    unittest.main()
