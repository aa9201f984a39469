import inspect
import unittest

from rankwright import errors

FAMILIES = {"Invalid": ValueError, "Refused": ArithmeticError, "Missing": LookupError}

CLASSES = {
    "BadGround": ("Invalid", "reason"), "BadSets": ("Invalid", "reason"), "BadSet": ("Invalid", "reason"),
    "BadTable": ("Invalid", "fault"), "BadMatroid": ("Invalid", "reason"), "BadMatrix": ("Invalid", "reason"),
    "BadGraph": ("Invalid", "reason"), "BadFamily": ("Invalid", "reason"), "BadElement": ("Invalid", "reason"),
    "BadText": ("Invalid", "line"), "BadStep": ("Invalid", "place"), "BadFlats": ("Invalid", "reason"),
    "BadName": ("Invalid", "reason"), "BadPieces": ("Invalid", "reason"), "BadNumber": ("Invalid", "reason"),
    "BadChange": ("Invalid", "reason"),
    "TooMany": ("Refused", "most"), "Unlike": ("Refused", "reason"), "Loop": ("Refused", "element"),
    "NotRelaxable": ("Refused", "reason"), "NotFree": ("Refused", "reason"),
    "NothingDone": ("Missing", "reason"),
}

VALUES = ["some words", "", 0, 7, -1, None, (), ("exchange", (0, 1), (2, 3), 0)]


def class_named(name):
    return getattr(errors, name)


class ErrorsTest(unittest.TestCase):

    def test_there_are_just_these_classes(self):
        found = {name for name, thing in vars(errors).items() if inspect.isclass(thing)}
        self.assertEqual(found, set(FAMILIES) | set(CLASSES))

    def test_each_is_made_by_position(self):
        for name, (_, attribute) in CLASSES.items():
            for value in VALUES:
                with self.subTest(name=name, value=value):
                    self.assertEqual(getattr(class_named(name)(value), attribute), value)

    def test_each_is_made_by_name(self):
        for name, (_, attribute) in CLASSES.items():
            for value in VALUES:
                with self.subTest(name=name, value=value):
                    self.assertEqual(getattr(class_named(name)(**{attribute: value}), attribute), value)

    def test_each_has_no_attribute_but_its_own(self):
        for name, (_, attribute) in CLASSES.items():
            with self.subTest(name=name):
                self.assertEqual(vars(class_named(name)("word")), {attribute: "word"})

    def test_each_takes_just_its_argument(self):
        for name in CLASSES:
            with self.subTest(name=name):
                self.assertRaises(TypeError, class_named(name))
                self.assertRaises(TypeError, class_named(name), 1, 2)
                self.assertRaises(TypeError, class_named(name), 1, other=2)

    def test_each_has_its_family_as_its_only_base(self):
        for name, (family, _) in CLASSES.items():
            with self.subTest(name=name):
                self.assertEqual(class_named(name).__bases__, (class_named(family),))

    def test_each_family_has_one_base(self):
        for name, base in FAMILIES.items():
            with self.subTest(name=name):
                self.assertEqual(class_named(name).__bases__, (base,))

    def test_each_is_caught_by_its_family_and_its_base(self):
        for name, (family, attribute) in CLASSES.items():
            for catcher in (class_named(name), class_named(family), FAMILIES[family]):
                with self.subTest(name=name, catcher=catcher):
                    with self.assertRaises(catcher) as caught:
                        raise class_named(name)("word")
                    self.assertEqual(getattr(caught.exception, attribute), "word")

    def test_each_is_of_no_other_family_and_of_no_other_class(self):
        for name, (family, _) in CLASSES.items():
            made = class_named(name)("word")
            for other in (set(FAMILIES) | set(CLASSES)) - {name, family}:
                with self.subTest(name=name, other=other):
                    self.assertNotIsInstance(made, class_named(other))
            for other, base in FAMILIES.items():
                with self.subTest(name=name, base=base):
                    self.assertEqual(isinstance(made, base), other == family)
