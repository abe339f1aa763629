"""[4] The classes of errors: their bases, and what they keep."""

import inspect
import unittest

from closerworks import errors
from tests.helpers import odd_tuples, odd_values, odd_words

BASES = {"WrongValue": ValueError, "WrongName": LookupError, "NotPossible": ArithmeticError}
TOLD = {
    ("WrongValue", "given"): """InvalidText InvalidThings InvalidLot InvalidRule InvalidLetters InvalidNumber InvalidName
        InvalidWish InvalidCommand NotACloser NotATable NotARiddle""".split(),
    ("WrongValue", "index"): """InvalidFamily InvalidClosed InvalidBook InvalidRows InvalidNumbers InvalidSheet
        InvalidSheets InvalidParts InvalidLeads InvalidBases InvalidWeights InvalidAnswers InvalidLog""".split(),
    ("WrongName", "given"): ["UnknownThing", "UnknownName"],
    ("WrongName", "index"): ["InUse"],
    ("NotPossible", "given"): ["OtherThings", "TooMany", "TooFew", "Loses", "Swapped", "Barred"],
    ("NotPossible", "index"): ["Broken"],
    ("NotPossible", None): ["NoFit", "NothingToUndo"],
}


def listed():
    """Each class with its base and its attribute."""
    return [(getattr(errors, name), getattr(errors, base), attribute)
            for (base, attribute), names in TOLD.items() for name in names]


def any_values():
    """Values of any kind, also such as no call need take."""
    deep = "a"
    for _ in range(30):
        deep = (deep, [deep])
    return odd_values() + odd_tuples() + odd_words() + ["", "a", (), 1.5, float("nan"), deep, "x" * 9999]


class Errors(unittest.TestCase):

    def test_there_are_just_the_classes_told(self):
        names = set(BASES).union(*TOLD.values())
        self.assertEqual(len(names), 40)
        self.assertEqual({name for name in vars(errors) if not name.startswith("_")}, names)

    def test_each_stands_under_its_one_base_class(self):
        for kind, base, _ in listed():
            self.assertEqual(kind.__bases__, (base,))
            for name in BASES:
                self.assertEqual(issubclass(kind, getattr(errors, name)), getattr(errors, name) is base, kind)
            for other, _, _ in listed():
                self.assertEqual(issubclass(kind, other), kind is other, (kind, other))

    def test_each_base_class_stands_under_the_class_of_python_told(self):
        for name, python in BASES.items():
            self.assertEqual(getattr(errors, name).__bases__, (python,))

    def test_base_classes_have_no_attribute(self):
        for name in BASES:
            error = getattr(errors, name)()
            self.assertEqual(vars(error), {})
            self.assertFalse(hasattr(error, "given") or hasattr(error, "index"))

    def test_what_is_passed_is_kept_by_position_and_by_name(self):
        for kind, _, attribute in listed():
            if attribute is None:
                continue
            self.assertEqual(list(inspect.signature(kind).parameters), [attribute])
            for value in any_values():
                for error in (kind(value), kind(**{attribute: value})):
                    self.assertIs(type(error), kind)
                    self.assertIs(getattr(error, attribute), value)
                    self.assertEqual(list(vars(error)), [attribute])

    def test_what_has_no_attribute_is_made_without_one(self):
        for kind, _, attribute in listed():
            if attribute is None:
                self.assertEqual(vars(kind()), {})
                self.assertFalse(hasattr(kind(), "given") or hasattr(kind(), "index"))

    def test_an_attribute_must_be_passed(self):
        for kind, _, attribute in listed():
            if attribute is not None:
                with self.assertRaises(TypeError):
                    kind()

    def test_an_error_that_is_raised_is_caught_by_its_bases(self):
        for kind, base, attribute in listed():
            error = kind() if attribute is None else kind("ab")
            for catcher in (kind, base, base.__bases__[0], Exception):
                with self.assertRaises(catcher) as caught:
                    raise error
                self.assertIs(caught.exception, error)

    def test_an_error_that_is_raised_is_not_caught_by_others(self):
        for kind, base, attribute in listed():
            error = kind() if attribute is None else kind("ab")
            others = [getattr(errors, name) for name in BASES if getattr(errors, name) is not base]
            others += [python for python in BASES.values() if python is not base.__bases__[0]]
            try:
                raise error
            except tuple(others):
                self.fail(f"{kind} is caught by another base class")
            except base:
                pass

    def test_base_classes_can_be_raised(self):
        for name, python in BASES.items():
            with self.assertRaises(python):
                raise getattr(errors, name)()


if __name__ == "__main__":
    unittest.main()
