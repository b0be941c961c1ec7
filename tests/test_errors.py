import unittest

from soonerornot import errors


class Classes(unittest.TestCase):
    def test_each_class_has_its_direct_base_alone(self):
        bases = {
            errors.OrderError: ValueError,
            errors.BadText: errors.OrderError,
            errors.BadTree: errors.OrderError,
            errors.TooGreat: errors.OrderError,
            errors.BadAct: errors.OrderError,
            errors.BadAsk: errors.OrderError,
            errors.NothingDone: errors.OrderError,
            errors.NameMissing: LookupError,
            errors.UnknownName: errors.NameMissing,
        }
        for one, base in bases.items():
            with self.subTest(one=one.__name__):
                self.assertEqual(one.__bases__, (base,))
                self.assertEqual(one.__module__, "soonerornot.errors")

    def test_lookups_and_values_are_kept_apart(self):
        self.assertFalse(issubclass(errors.OrderError, LookupError))
        for one in (errors.NameMissing, errors.UnknownName):
            self.assertTrue(issubclass(one, LookupError))
            self.assertFalse(issubclass(one, ValueError))
            self.assertFalse(issubclass(one, errors.OrderError))
        for one in (errors.BadText, errors.BadTree, errors.TooGreat,
                    errors.BadAct, errors.BadAsk, errors.NothingDone):
            self.assertTrue(issubclass(one, errors.OrderError))
            self.assertFalse(issubclass(one, LookupError))
            self.assertFalse(issubclass(one, errors.NameMissing))

    def test_each_can_be_raised_and_shown(self):
        for error in (errors.BadText(3), errors.BadTree([1]), errors.TooGreat(), errors.BadAct("form"),
                      errors.BadAsk("line"), errors.NothingDone(), errors.UnknownName("x"),
                      errors.OrderError(), errors.NameMissing()):
            with self.subTest(error=error):
                with self.assertRaises(type(error)) as caught:
                    raise error
                self.assertIs(caught.exception, error)
                self.assertIsInstance(str(error), str)


ANYTHING = (0, -7, 10 ** 39, True, None, "", "word", (), (1, ("a", None)), [1, [2]], {"a": [1]}, {(1, 2): {}})


class Attributes(unittest.TestCase):
    def test_arguments_are_kept_as_they_are(self):
        named = ((errors.BadText, "place"), (errors.BadAct, "word"),
                 (errors.BadAsk, "word"), (errors.UnknownName, "name"))
        for one, attribute in named:
            for value in ANYTHING:
                with self.subTest(one=one.__name__, value=value):
                    self.assertIs(getattr(one(value), attribute), value)

    def test_a_path_is_kept_as_a_tuple(self):
        for path in ([], (), [1, 0, 2], (1, 0, 2), [5]):
            with self.subTest(path=path):
                kept = errors.BadTree(path).path
                self.assertIs(type(kept), tuple)
                self.assertEqual(kept, tuple(path))
        self.assertEqual(str(errors.BadTree([1, 2])), str(errors.BadTree((1, 2))))

    def test_a_path_passed_as_a_list_stays_and_is_not_kept(self):
        path = [1, 2]
        error = errors.BadTree(path)
        self.assertEqual(path, [1, 2])
        path.append(3)
        self.assertEqual(error.path, (1, 2))

    def test_errors_without_arguments_take_none(self):
        for one in (errors.TooGreat, errors.NothingDone):
            with self.assertRaises(TypeError):
                one(1)
        for one in (errors.BadText, errors.BadTree, errors.BadAct, errors.BadAsk, errors.UnknownName):
            with self.assertRaises(TypeError):
                one()


if __name__ == "__main__":
    unittest.main()
