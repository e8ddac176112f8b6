import unittest

from deltaloom.errors import FormError, LoomError, NameTaken, NameUnknown, SizeError


class Kinds(unittest.TestCase):
    def test_the_base_class_is_a_value_error(self):
        self.assertEqual(LoomError.__bases__, (ValueError,))

    def test_the_others_derive_from_the_base_class(self):
        for kind in (FormError, SizeError, NameUnknown, NameTaken):
            self.assertEqual(kind.__bases__, (LoomError,))

    def test_all_are_caught_as_loom_errors_and_value_errors(self):
        for error in (LoomError("a"), FormError("b"), SizeError("c"), NameUnknown("d"), NameTaken("e")):
            for kind in (LoomError, ValueError):
                with self.assertRaises(kind):
                    raise error

    def test_one_kind_is_not_another(self):
        errors = [FormError("a"), SizeError("b"), NameUnknown("c"), NameTaken("d")]
        for error in errors:
            caught = [kind for kind in (FormError, SizeError, NameUnknown, NameTaken) if isinstance(error, kind)]
            self.assertEqual(len(caught), 1)


class Names(unittest.TestCase):
    def test_the_name_is_set_when_the_object_is_created(self):
        for kind in (NameUnknown, NameTaken):
            for name in ("edge", "a", "abcdefghijkl", "no such name", ""):
                self.assertEqual(kind(name).name, name)

    def test_each_object_has_its_own_name(self):
        first, second = NameUnknown("first"), NameUnknown("second")
        self.assertEqual((first.name, second.name), ("first", "second"))

    def test_the_name_is_there_when_the_error_is_caught(self):
        for kind in (NameUnknown, NameTaken):
            with self.assertRaises(kind) as caught:
                raise kind("trunk")
            self.assertEqual(caught.exception.name, "trunk")
            self.assertIn("trunk", str(caught.exception))


if __name__ == "__main__":
    unittest.main()
