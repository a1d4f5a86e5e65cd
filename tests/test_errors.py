"""Point 2: the refusals."""

import unittest

from frametally import errors
from frametally.errors import Broken, NotValid, PageError


class ErrorsTest(unittest.TestCase):
    def test_page_error_is_a_value_error(self):
        self.assertEqual(PageError.__bases__, (ValueError,))

    def test_refusals_are_direct_subclasses(self):
        for error in (NotValid, Broken):
            self.assertEqual(error.__bases__, (PageError,))

    def test_they_are_defined_in_their_file(self):
        for error in (PageError, NotValid, Broken):
            self.assertEqual(error.__module__, "frametally.errors")

    def test_there_are_no_others(self):
        found = [name for name, value in vars(errors).items() if isinstance(value, type)]
        self.assertEqual(sorted(found), ["Broken", "NotValid", "PageError"])

    def test_each_takes_no_argument(self):
        for error in (PageError, NotValid, Broken):
            self.assertEqual(error().args, ())
            with self.assertRaises(TypeError):
                error("why")

    def test_they_are_told_apart(self):
        with self.assertRaises(NotValid):
            try:
                raise NotValid()
            except Broken:
                self.fail("NotValid is no Broken")
        with self.assertRaises(Broken):
            try:
                raise Broken()
            except NotValid:
                self.fail("Broken is no NotValid")

    def test_a_value_error_is_no_page_error(self):
        self.assertNotIsInstance(ValueError(), PageError)


if __name__ == "__main__":
    unittest.main()
