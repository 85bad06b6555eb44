"""The errors of the interface: their base classes, attributes, parameters, and any values."""

import inspect
import unittest

from fromplaces import errors
from support import Case

TREE = {
    ValueError: {"TimeError": {
        "InvalidHouse": ["value"], "InvalidMakers": ["value"], "InvalidMany": ["value"], "InvalidNumber": ["value"],
        "InvalidPoly": ["value"], "InvalidRoom": ["value"], "DividedByZero": [], "InvalidClaim": ["value"],
        "InvalidClock": ["value"], "InvalidCommand": ["value"], "InvalidCounts": ["value"],
        "InvalidGoals": ["value"], "InvalidInner": ["value"], "InvalidLines": ["position"],
        "InvalidMaking": ["value"], "InvalidPaper": ["value"], "InvalidPolys": ["value"],
        "InvalidPosition": ["value"], "InvalidRows": ["value"], "InvalidSort": ["value"], "InvalidText": ["line"],
        "InvalidValue": ["value"],
    }},
    LookupError: {"MissingError": {"UnknownLabel": ["value"], "UnknownName": ["value"]}},
    RuntimeError: {"StateError": {
        "CommandFailed": ["position"], "LabelTaken": ["label"], "NameTaken": ["name"], "NotAll": [],
        "NotDivided": [], "NothingToRedo": [], "NothingToUndo": [], "NoughtFirst": [], "NoughtPoly": [],
        "OnlyNumber": [], "UnlikeClocks": [],
    }},
    ArithmeticError: {"LimitError": {"TooMany": ["what", "limit"]}},
}
VALUES = [0, True, None, "a", b"a", [1, [2]], (1,), {}, {1: 2}, {3}, object(), ValueError("x"), 10 ** 40]


def listed():
    """Each error class as (its base class, its name, its attributes)."""
    found = []
    for builtin, groups in TREE.items():
        for group, names in groups.items():
            found.append((builtin, group, None))
            for name, attributes in names.items():
                found.append((getattr(errors, group), name, attributes))
    return found


class Errors(Case):

    def test_base_classes(self):
        for base, name, _ in listed():
            with self.subTest(name):
                self.assertEqual(getattr(errors, name).__bases__, (base,))
                self.assertEqual(getattr(errors, name).__module__, "fromplaces.errors")

    def test_no_other_names(self):
        names = [name for name, value in vars(errors).items() if inspect.isclass(value)]
        self.assertEqual(sorted(names), sorted(name for _, name, _ in listed()))

    def test_attributes(self):
        for _, name, attributes in listed():
            if attributes is None:
                continue
            for first in VALUES:
                with self.subTest(name, first=first):
                    parts = [first, [first]][:len(attributes)]
                    error = getattr(errors, name)
                    for made in (error(*parts), error(**dict(zip(attributes, parts)))):
                        self.assertEqual(list(vars(made)), attributes)
                        for attribute, part in zip(attributes, parts):
                            self.assertIs(getattr(made, attribute), part)

    def test_parameters(self):
        for _, name, attributes in listed():
            if attributes:
                with self.subTest(name):
                    parameters = inspect.signature(getattr(errors, name)).parameters
                    self.assertEqual(list(parameters), attributes)
                    self.assertRaises(TypeError, getattr(errors, name))

    def test_raised_and_caught(self):
        for base, name, attributes in listed():
            if attributes is not None:
                with self.subTest(name):
                    with self.assertRaises(base):
                        raise getattr(errors, name)(*attributes)

    def test_messages_can_be_read(self):
        for _, name, attributes in listed():
            if attributes is not None:
                for value in VALUES:
                    self.assertIs(type(str(getattr(errors, name)(*[value for _ in attributes]))), str)


if __name__ == "__main__":
    unittest.main()
