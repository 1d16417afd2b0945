import unittest

from latebound import errors

# class name, the built-in class above it, attribute, a value
WITH_VALUE = (
    ("Ring", ValueError, "doors", (0, 2)),
    ("BadText", ValueError, "line", 3),
    ("BadLine", ValueError, "number", 4),
    ("NoDoor", LookupError, "number", -1),
    ("NoLib", LookupError, "name", "nope"),
    ("NoUse", LookupError, "number", 7),
    ("NotThere", RuntimeError, "name", "one"),
    ("NotOpen", RuntimeError, "number", 0),
)
WITHOUT_VALUE = (("NoProgram", ValueError), ("NothingDone", RuntimeError))
ALL = tuple((row[0], row[1]) for row in WITH_VALUE + WITHOUT_VALUE)


class ErrorsTest(unittest.TestCase):

    def test_value_by_position(self):
        for name, _, attribute, value in WITH_VALUE:
            with self.subTest(name):
                self.assertEqual(vars(getattr(errors, name)(value)), {attribute: value})

    def test_value_by_name(self):
        for name, _, attribute, value in WITH_VALUE:
            with self.subTest(name):
                self.assertEqual(vars(getattr(errors, name)(**{attribute: value})), {attribute: value})

    def test_value_is_needed_and_the_only_one(self):
        for name, _, attribute, value in WITH_VALUE:
            with self.subTest(name):
                with self.assertRaises(TypeError):
                    getattr(errors, name)()
                with self.assertRaises(TypeError):
                    getattr(errors, name)(value, value)

    def test_without_value(self):
        for name, _ in WITHOUT_VALUE:
            with self.subTest(name):
                self.assertEqual(vars(getattr(errors, name)()), {})

    def test_doors_of_a_ring_are_tuples_at_every_depth(self):
        for error in (errors.Ring([2, 0, 1]), errors.Ring(doors=[2, 0, 1])):
            self.assertEqual(error.doors, (2, 0, 1))
            self.assertIs(type(error.doors), tuple)
        self.assertEqual(errors.Ring([[0, [1]], (2, [3])]).doors, ((0, (1,)), (2, (3,))))

    def test_doors_of_a_ring_are_a_copy(self):
        doors = [0, 1]
        error = errors.Ring(doors)
        doors.append(2)
        self.assertEqual((error.doors, doors), ((0, 1), [0, 1, 2]))

    def test_direct_base(self):
        for name, base in ALL:
            with self.subTest(name):
                self.assertEqual(getattr(errors, name).__bases__, (base,))

    def test_none_is_a_subclass_of_another(self):
        for name, _ in ALL:
            for other, _ in ALL:
                below = issubclass(getattr(errors, name), getattr(errors, other))
                self.assertEqual(below, name == other, (name, other))

    def test_raised_and_caught_as_the_builtin_class(self):
        for name, base, attribute, value in WITH_VALUE:
            with self.subTest(name), self.assertRaises(base) as caught:
                raise getattr(errors, name)(value)
            self.assertEqual(getattr(caught.exception, attribute), value)
        for name, base in WITHOUT_VALUE:
            with self.subTest(name), self.assertRaises(base):
                raise getattr(errors, name)()

    def test_defined_in_this_file(self):
        for name, _ in ALL:
            self.assertEqual(getattr(errors, name).__module__, "latebound.errors")


if __name__ == "__main__":
    unittest.main()
