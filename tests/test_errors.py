import unittest

from kindspan.errors import KindError, NoJoin, NoKind, NoName, Stuck

BELOW = (NoJoin, NoKind, NoName, Stuck)


class TestErrors(unittest.TestCase):
    def test_kind_error_is_a_value_error(self):
        self.assertEqual(KindError.__bases__, (ValueError,))

    def test_each_stands_below_kind_error(self):
        for error in BELOW:
            self.assertTrue(issubclass(error, KindError))
            self.assertTrue(issubclass(error, ValueError))

    def test_none_stands_below_another(self):
        for one in BELOW:
            for other in BELOW:
                self.assertEqual(issubclass(one, other), one is other)

    def test_no_name_has_the_name(self):
        error = NoName("abc")
        self.assertEqual(error.name, "abc")
        with self.assertRaises(KindError) as caught:
            raise NoName("xy")
        self.assertEqual(caught.exception.name, "xy")
        self.assertIn("xy", str(caught.exception))


if __name__ == "__main__":
    unittest.main()
