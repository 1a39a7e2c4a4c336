"""The refusals and what they stand under."""

import unittest

from dripgate.errors import GateError, NoCaller


class Errors(unittest.TestCase):
    def test_what_stands_under_what(self):
        self.assertEqual(GateError.__bases__, (ValueError,))
        self.assertEqual(NoCaller.__bases__, (GateError,))

    def test_the_wider_refusal_is_not_the_narrower(self):
        self.assertNotIsInstance(GateError("words"), NoCaller)

    def test_taken_by_each_name(self):
        for wider in (NoCaller, GateError, ValueError):
            with self.subTest(wider=wider):
                with self.assertRaises(wider):
                    raise NoCaller("words")


if __name__ == "__main__":
    unittest.main()
