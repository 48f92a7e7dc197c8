"""[4]: the errors."""

import unittest

from houseslessties import errors
from tests.cases import nested

NET_ERRORS = {
    "BadMachine": ("at",), "BadWeb": ("at",), "BadRow": ("at",), "BadSteps": ("at",), "BadText": ("at",),
    "Refused": ("at",), "TooGreat": ("most",), "Untold": ("archive", "here", "there"),
    "Uncommuting": ("state", "one", "other"),
}
KEY_ERRORS = {"NoState": ("state",), "NoDeed": ("deed",), "NoHouse": ("house",), "NoTie": ("tie",)}


class ErrorsTest(unittest.TestCase):
    def test_net_error_is_the_base_class(self):
        self.assertEqual(errors.NetError.__bases__, (ValueError,))

    def test_direct_subclasses(self):
        for name in NET_ERRORS:
            self.assertEqual(getattr(errors, name).__bases__, (errors.NetError,), name)
        for name in KEY_ERRORS:
            self.assertEqual(getattr(errors, name).__bases__, (KeyError,), name)

    def test_none_is_derived_from_another_one(self):
        kinds = [getattr(errors, name) for name in {**NET_ERRORS, **KEY_ERRORS}]
        for one in kinds:
            self.assertEqual([other for other in kinds if issubclass(one, other)], [one])

    def test_arguments_are_kept_as_they_are(self):
        things = [[1, [2]], nested(40), object()], [{}, None, True], ["", 10 ** 5000, errors.NetError]
        for name, fields in {**NET_ERRORS, **KEY_ERRORS}.items():
            kind = getattr(errors, name)
            for some in things:
                passed = some[:len(fields)]
                by_position = kind(*passed)
                by_name = kind(**dict(zip(fields, passed)))
                for field, thing in zip(fields, passed):
                    self.assertIs(getattr(by_position, field), thing)
                    self.assertIs(getattr(by_name, field), thing)

    def test_other_arguments_are_none_of_the_constructor(self):
        for name, fields in {**NET_ERRORS, **KEY_ERRORS}.items():
            for many in (len(fields) - 1, len(fields) + 1):
                with self.assertRaises(TypeError):
                    getattr(errors, name)(*range(many))

    def test_raised_and_caught(self):
        with self.assertRaises(errors.NetError) as caught:
            raise errors.Untold(1, 2, 3)
        self.assertEqual((caught.exception.archive, caught.exception.here, caught.exception.there), (1, 2, 3))
        with self.assertRaises(KeyError) as caught:
            raise errors.NoTie([])
        self.assertEqual(caught.exception.tie, [])
