"""What the program needs of the expressions of [2.1]."""

import unittest

from kindspan.trees import first_missing_name, parts_with_names, with_parts

A = ("name", "a")
B = ("name", "b")
C = ("name", "c")
ONE = ("number", 1)

SORTS = [
    (("name", "n"), []),
    (("number", 3), []),
    (("truth", True), []),
    (("empty",), []),
    (("fun", "n", A), [(A, ("n",))]),
    (("rec", "n", "m", A), [(A, ("n", "m"))]),
    (("call", A, B), [(A, ()), (B, ())]),
    (("let", "n", A, B), [(A, ()), (B, ("n",))]),
    (("when", A, B, C), [(A, ()), (B, ()), (C, ())]),
    (("pair", A, B), [(A, ()), (B, ())]),
    (("open", A, "n", "m", B), [(A, ()), (B, ("n", "m"))]),
    (("link", A, B), [(A, ()), (B, ())]),
    (("split", A, B, "n", "m", C), [(A, ()), (B, ()), (C, ("n", "m"))]),
    (("op", "plus", A, B), [(A, ()), (B, ())]),
]


class TestParts(unittest.TestCase):
    def test_each_sort(self):
        for tree, parts in SORTS:
            self.assertEqual(parts_with_names(tree), parts)

    def test_with_parts_of_each_sort(self):
        for tree, parts in SORTS:
            self.assertEqual(with_parts(tree, [part for part, names in parts]), tree)
            fresh = [("number", k) for k in range(len(parts))]
            other = with_parts(tree, fresh)
            self.assertEqual([part for part, names in parts_with_names(other)], fresh)
            self.assertEqual([names for part, names in parts_with_names(other)], [names for part, names in parts])
            self.assertEqual(len(other), len(tree))
            self.assertEqual(other[0], tree[0])

    def test_what_is_handed_in_stays(self):
        tree = ("pair", A, B)
        parts = [ONE, C]
        self.assertEqual(with_parts(tree, parts), ("pair", ONE, C))
        self.assertEqual((tree, parts), (("pair", A, B), [ONE, C]))


class TestFirstMissingName(unittest.TestCase):
    def test_none_where_all_are_given(self):
        for tree in (
            ONE,
            ("empty",),
            ("fun", "a", A),
            ("rec", "a", "b", ("call", A, B)),
            ("let", "a", ONE, A),
            ("open", ("pair", ONE, ONE), "a", "b", ("op", "plus", A, B)),
            ("split", ("empty",), ONE, "a", "b", ("link", A, B)),
            ("fun", "a", ("fun", "b", ("fun", "a", ("pair", A, B)))),
        ):
            self.assertIsNone(first_missing_name(tree))

    def test_the_first_from_the_left(self):
        self.assertEqual(first_missing_name(A), "a")
        self.assertEqual(first_missing_name(("pair", ("pair", B, C), A)), "b")
        self.assertEqual(first_missing_name(("when", ONE, C, A)), "c")
        self.assertEqual(first_missing_name(("pair", ("fun", "a", A), A)), "a")

    def test_names_are_given_in_their_parts_alone(self):
        self.assertEqual(first_missing_name(("let", "a", A, A)), "a")
        self.assertEqual(first_missing_name(("open", B, "a", "b", ("pair", A, B))), "b")
        self.assertEqual(first_missing_name(("split", ("empty",), A, "a", "b", A)), "a")
        self.assertEqual(first_missing_name(("call", ("fun", "c", C), C)), "c")

    def test_deep(self):
        tree = C
        for _ in range(2000):
            tree = ("fun", "a", tree)
        self.assertEqual(first_missing_name(tree), "c")
        self.assertIsNone(first_missing_name(("fun", "c", tree)))


if __name__ == "__main__":
    unittest.main()
