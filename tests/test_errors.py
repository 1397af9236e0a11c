"""The classes of refusals, as the interface lists them."""

import unittest

from knotbits import errors


class Classes(unittest.TestCase):
    def test_any_refusal_is_a_value_error(self):
        self.assertEqual(errors.KnotError.__bases__, (ValueError,))

    def test_each_refusal_stands_straight_under_the_first(self):
        for kind in (errors.NoTree, errors.NoSize, errors.NoBlock, errors.NoKnot):
            self.assertEqual(kind.__bases__, (errors.KnotError,))

    def test_each_is_defined_in_its_file_under_its_name(self):
        for name in ("KnotError", "NoTree", "NoSize", "NoBlock", "NoKnot"):
            kind = getattr(errors, name)
            self.assertEqual((kind.__module__, kind.__name__), ("knotbits.errors", name))


if __name__ == "__main__":
    unittest.main()
