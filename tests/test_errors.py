"""Every error class: its base class, its constructor, its attributes and its code."""

import itertools
import unittest

from endlessnets import errors

PARAMETERS = {
    "InvalidNumber": ["value"], "InvalidFraction": ["value"], "InvalidDirections": ["value"],
    "InvalidVector": ["at"], "InvalidMatrix": [], "Singular": [], "InvalidName": ["value"],
    "InvalidKind": ["value"], "InvalidPlace": ["at"], "InvalidTie": ["at"], "DuplicateName": ["name"],
    "Itself": ["name"], "TwiceTold": ["tie"], "TooMany": ["most"], "InvalidText": ["line", "why"],
    "InvalidPictures": ["name"], "Misfit": [], "InvalidLattice": [], "Falls": ["many"], "Finite": ["name"],
    "Unsteady": ["one", "other"], "NotLeast": ["shift"], "Taken": ["name"], "InvalidBook": [],
    "Known": ["name"], "InvalidDeed": ["at"],
    "UnknownName": ["name"], "UnknownTie": ["tie"], "UnknownSpot": ["spot"], "NothingLeft": [],
}
MISSING = ["UnknownName", "UnknownTie", "UnknownSpot"]
VALUES = [None, True, 0, 10 ** 39, "a b\n", (1, (2, None)), ["x"], {"a": [1]}, 10 ** 5000]


def base_of(name):
    if name == "NothingLeft":
        return IndexError
    return errors.Missing if name in MISSING else errors.NetError


class ErrorsTest(unittest.TestCase):
    def test_roots(self):
        self.assertEqual(errors.NetError.__bases__, (ValueError,))
        self.assertEqual(errors.Missing.__bases__, (LookupError,))
        self.assertFalse(hasattr(errors.NetError(), "code"))
        self.assertFalse(hasattr(errors.Missing(), "code"))
        with self.assertRaises(ValueError):
            raise errors.NetError("wrong")
        with self.assertRaises(LookupError):
            raise errors.Missing("gone")

    def test_the_direct_base_class_is_the_only_one(self):
        for name in PARAMETERS:
            self.assertEqual(getattr(errors, name).__bases__, (base_of(name),), name)

    def test_no_other_class_is_a_subclass_of_another_one(self):
        for one, other in itertools.permutations(PARAMETERS, 2):
            self.assertFalse(issubclass(getattr(errors, one), getattr(errors, other)), (one, other))

    def test_nothing_else_is_defined(self):
        found = [name for name, value in vars(errors).items() if isinstance(value, type)]
        self.assertEqual(sorted(found), sorted([*PARAMETERS, "NetError", "Missing"]))

    def test_by_position(self):
        for name, parameters in PARAMETERS.items():
            for value in VALUES:
                passed = [(value, at) for at in range(len(parameters))]
                error = getattr(errors, name)(*passed)
                self.assertEqual(vars(error), {"code": name, **dict(zip(parameters, passed))})

    def test_values_are_kept_as_they_are(self):
        for name, parameters in PARAMETERS.items():
            for value in VALUES:
                error = getattr(errors, name)(*[value for _ in parameters])
                for parameter in parameters:
                    self.assertIs(getattr(error, parameter), value)
                self.assertIsInstance(str(error), str)

    def test_by_name_in_any_order(self):
        for name, parameters in PARAMETERS.items():
            for order in itertools.permutations(parameters):
                passed = {parameter: [parameter] for parameter in order}
                error = getattr(errors, name)(**passed)
                self.assertEqual(vars(error), {"code": name, **passed})

    def test_wrong_numbers_of_arguments(self):
        for name, parameters in PARAMETERS.items():
            with self.assertRaises(TypeError):
                getattr(errors, name)(*parameters, "more")
            if parameters:
                with self.assertRaises(TypeError):
                    getattr(errors, name)()

    def test_one_error_is_not_changed_by_later_ones(self):
        for name, parameters in PARAMETERS.items():
            first = getattr(errors, name)(*["first" for _ in parameters])
            getattr(errors, name)(*["second" for _ in parameters])
            for parameter in parameters:
                self.assertEqual(getattr(first, parameter), "first")
            self.assertEqual(first.code, name)

    def test_raised_and_caught(self):
        for name, parameters in PARAMETERS.items():
            with self.assertRaises(base_of(name)) as caught:
                raise getattr(errors, name)(*parameters)
            self.assertEqual(caught.exception.code, name)


if __name__ == "__main__":
    unittest.main()
