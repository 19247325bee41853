"""The list of errors: each straight under NetError, none under another."""

import unittest

from tests.helper import OWN_ERRORS
from treetally import errors


class ErrorsTest(unittest.TestCase):
    def test_net_error_stands_straight_under_value_error(self):
        self.assertEqual(errors.NetError.__bases__, (ValueError,))

    def test_each_other_one_stands_straight_under_net_error(self):
        for error in OWN_ERRORS:
            self.assertEqual(error.__bases__, (errors.NetError,))

    def test_none_stands_under_another(self):
        for one in OWN_ERRORS:
            for other in OWN_ERRORS:
                self.assertEqual(issubclass(one, other), one is other)

    def test_all_are_defined_there(self):
        for error in OWN_ERRORS + (errors.NetError,):
            self.assertEqual(error.__module__, "treetally.errors")

    def test_their_words_are_told(self):
        for error in OWN_ERRORS:
            self.assertEqual(str(error("so it is")), "so it is")
