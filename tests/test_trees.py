"""What the program needs of the expressions of [2.1]."""

import unittest

from kindspan.trees import (
    first_missing_name, first_places, missing_names, parts_with_names, put_in, with_part, with_parts,
)

A = ("name", "a")
B = ("name", "b")
C = ("name", "c")
ONE = ("number", 1)

SORTS = [
    (("name", "n"), []),
    (("number", 3), []),
    (("truth", True), []),
    (("empty",), []),
    (("fun", "n", A), [(A, ("n",))]),
    (("rec", "n", "m", A), [(A, ("n", "m"))]),
    (("call", A, B), [(A, ()), (B, ())]),
    (("let", "n", A, B), [(A, ()), (B, ("n",))]),
    (("when", A, B, C), [(A, ()), (B, ()), (C, ())]),
    (("pair", A, B), [(A, ()), (B, ())]),
    (("open", A, "n", "m", B), [(A, ()), (B, ("n", "m"))]),
    (("link", A, B), [(A, ()), (B, ())]),
    (("split", A, B, "n", "m", C), [(A, ()), (B, ()), (C, ("n", "m"))]),
    (("op", "plus", A, B), [(A, ()), (B, ())]),
]


class TestParts(unittest.TestCase):
    def test_each_sort(self):
        for tree, parts in SORTS:
            self.assertEqual(parts_with_names(tree), parts)

    def test_with_parts_of_each_sort(self):
        for tree, parts in SORTS:
            self.assertEqual(with_parts(tree, [part for part, names in parts]), tree)
            fresh = [("number", k) for k in range(len(parts))]
            other = with_parts(tree, fresh)
            self.assertEqual([part for part, names in parts_with_names(other)], fresh)
            self.assertEqual([names for part, names in parts_with_names(other)], [names for part, names in parts])
            self.assertEqual(len(other), len(tree))
            self.assertEqual(other[0], tree[0])

    def test_what_is_handed_in_stays(self):
        tree = ("pair", A, B)
        parts = [ONE, C]
        self.assertEqual(with_parts(tree, parts), ("pair", ONE, C))
        self.assertEqual((tree, parts), (("pair", A, B), [ONE, C]))


    def test_with_part(self):
        self.assertEqual(with_part(("pair", A, B), 1, C), ("pair", C, B))
        self.assertEqual(with_part(("pair", A, B), 2, C), ("pair", A, C))
        self.assertEqual(with_part(("op", "plus", A, B), 3, C), ("op", "plus", A, C))

    def test_parts_that_must_be_values_first(self):
        both = ("call", "op", "pair", "link")
        one = ("let", "when", "open", "split")
        for tree, parts in SORTS:
            firsts = [tree[place] for place in first_places(tree)]
            count = 2 if tree[0] in both else 1 if tree[0] in one else 0
            self.assertEqual(firsts, [part for part, names in parts][:count], tree)


class TestPutIn(unittest.TestCase):
    def test_each_sort(self):
        for tree, parts in SORTS:
            if tree[0] != "name":
                told = [C if part == C else ONE if part == A else ("empty",) for part, names in parts]
                self.assertEqual(put_in(tree, {"a": ONE, "b": ("empty",), "n": C, "m": C}), with_parts(tree, told))

    def test_names(self):
        self.assertEqual(put_in(A, {"a": ONE}), ONE)
        self.assertEqual(put_in(A, {"b": ONE}), A)
        self.assertEqual(put_in(A, {}), A)

    def test_given_anew_within(self):
        told = {"a": ONE, "b": ("number", 2)}
        self.assertEqual(put_in(("fun", "a", ("pair", A, B)), told), ("fun", "a", ("pair", A, ("number", 2))))
        self.assertEqual(put_in(("rec", "a", "b", ("pair", A, B)), told), ("rec", "a", "b", ("pair", A, B)))
        self.assertEqual(put_in(("let", "a", A, A), told), ("let", "a", ONE, A))
        self.assertEqual(put_in(("open", B, "c", "b", ("pair", A, B)), told),
                         ("open", ("number", 2), "c", "b", ("pair", ONE, B)))
        self.assertEqual(put_in(("split", A, B, "a", "c", ("pair", A, B)), told),
                         ("split", ONE, ("number", 2), "a", "c", ("pair", A, ("number", 2))))
        self.assertEqual(told, {"a": ONE, "b": ("number", 2)})


class TestMissingNames(unittest.TestCase):
    def test_from_the_left_as_often_as_they_stand(self):
        self.assertEqual(missing_names(ONE), [])
        self.assertEqual(missing_names(("pair", ("pair", B, A), B)), ["b", "a", "b"])
        self.assertEqual(missing_names(("let", "a", A, ("pair", A, C))), ["a", "c"])
        self.assertEqual(missing_names(("fun", "a", ("pair", A, ("fun", "b", ("pair", A, C))))), ["c"])


class TestFirstMissingName(unittest.TestCase):
    def test_none_where_all_are_given(self):
        for tree in (
            ONE,
            ("empty",),
            ("fun", "a", A),
            ("rec", "a", "b", ("call", A, B)),
            ("let", "a", ONE, A),
            ("open", ("pair", ONE, ONE), "a", "b", ("op", "plus", A, B)),
            ("split", ("empty",), ONE, "a", "b", ("link", A, B)),
            ("fun", "a", ("fun", "b", ("fun", "a", ("pair", A, B)))),
        ):
            self.assertIsNone(first_missing_name(tree))

    def test_the_first_from_the_left(self):
        self.assertEqual(first_missing_name(A), "a")
        self.assertEqual(first_missing_name(("pair", ("pair", B, C), A)), "b")
        self.assertEqual(first_missing_name(("when", ONE, C, A)), "c")
        self.assertEqual(first_missing_name(("pair", ("fun", "a", A), A)), "a")

    def test_names_are_given_in_their_parts_alone(self):
        self.assertEqual(first_missing_name(("let", "a", A, A)), "a")
        self.assertEqual(first_missing_name(("open", B, "a", "b", ("pair", A, B))), "b")
        self.assertEqual(first_missing_name(("split", ("empty",), A, "a", "b", A)), "a")
        self.assertEqual(first_missing_name(("call", ("fun", "c", C), C)), "c")

    def test_deep(self):
        tree = C
        for _ in range(2000):
            tree = ("fun", "a", tree)
        self.assertEqual(first_missing_name(tree), "c")
        self.assertIsNone(first_missing_name(("fun", "c", tree)))


if __name__ == "__main__":
    unittest.main()
