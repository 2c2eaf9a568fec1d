"""[10] and the interface: the errors, their families and their fields."""

import unittest

from ascalls import errors

FAMILIES = {
    'PaperError': {'InvalidPaper': ('word', 'at')},
    'ProgramError': {'NotUsable': ('word', 'at'), 'NotCalls': ('run', 'ring')},
    'WatchError': {'InvalidEvent': ('event', 'reason'), 'NothingToUndo': ('steps',)},
    'TextError': {'InvalidText': ('line', 'field'), 'InvalidRow': ('row',)},
}
THINGS = (None, True, 0, 'word', (), [1, [2]], ('a', ()), object(), {'a': 1})


def rows():
    """The class, the family and the fields of each error."""
    for family, members in FAMILIES.items():
        for name, names in members.items():
            yield getattr(errors, name), getattr(errors, family), names


class ErrorTests(unittest.TestCase):
    def test_base_and_families(self):
        self.assertEqual(errors.CallsError.__bases__, (ValueError,))
        for family in FAMILIES:
            self.assertEqual(getattr(errors, family).__bases__, (errors.CallsError,))

    def test_each_error_is_derived_from_its_family_alone(self):
        for error, family, _ in rows():
            self.assertEqual(error.__bases__, (family,))
            self.assertTrue(issubclass(error, ValueError))

    def test_errors_are_different_classes_of_the_module(self):
        found = [error for error, _, _ in rows()]
        self.assertEqual(len(set(found)), 7)
        for error in found:
            self.assertEqual(error.__module__, 'ascalls.errors')

    def test_fields_are_the_very_objects(self):
        for error, _, names in rows():
            for k in range(len(THINGS)):
                things = [THINGS[(k + j) % len(THINGS)] for j in range(len(names))]
                for made in (error(*things), error(**dict(zip(names, things)))):
                    self.assertEqual(sorted(vars(made)), sorted(names))
                    for name, thing in zip(names, things):
                        self.assertIs(getattr(made, name), thing)

    def test_fields_are_just_these(self):
        for error, _, names in rows():
            with self.assertRaises(TypeError):
                error(*[0] * (len(names) + 1))
            with self.assertRaises(TypeError):
                error(*[0] * (len(names) - 1))

    def test_raised_and_caught_by_family(self):
        for error, family, names in rows():
            for caught in (error, family, errors.CallsError, ValueError):
                with self.assertRaises(caught) as told:
                    raise error(*range(len(names)))
                self.assertIs(type(told.exception), error)
            for other in FAMILIES:
                if getattr(errors, other) != family:
                    self.assertFalse(issubclass(error, getattr(errors, other)))


if __name__ == '__main__':
    unittest.main()
