import unittest

from siblingshelf import errors
from siblingshelf.errors import BadCount, BadMark, BadNote, NoKeeper, ShelfError

KINDS = (BadCount, NoKeeper, BadMark, BadNote)


class ErrorsTest(unittest.TestCase):
    def test_any_refusal_is_a_value_error(self):
        self.assertTrue(issubclass(ShelfError, ValueError))
        self.assertIsNot(ShelfError, ValueError)

    def test_each_kind_is_a_refusal(self):
        for kind in KINDS:
            with self.subTest(kind=kind.__name__):
                self.assertTrue(issubclass(kind, ShelfError))
                self.assertIsNot(kind, ShelfError)

    def test_no_kind_stands_under_another(self):
        for kind in KINDS:
            for other in KINDS:
                with self.subTest(kind=kind.__name__, other=other.__name__):
                    self.assertEqual(issubclass(kind, other), kind is other)

    def test_each_kind_has_its_own_name(self):
        names = [kind.__name__ for kind in (ShelfError, *KINDS)]
        self.assertEqual(names, ["ShelfError", "BadCount", "NoKeeper", "BadMark", "BadNote"])

    def test_all_are_defined_in_their_file(self):
        for kind in (ShelfError, *KINDS):
            with self.subTest(kind=kind.__name__):
                self.assertEqual(kind.__module__, errors.__name__)

    def test_each_kind_is_caught_as_what_it_stands_under(self):
        for kind in KINDS:
            for above in (kind, ShelfError, ValueError):
                with self.subTest(kind=kind.__name__, above=above.__name__):
                    with self.assertRaises(above):
                        raise kind("no")


if __name__ == "__main__":
    unittest.main()
