"""[2.1], [2.2] and [2.3]: the kind of an expression."""

import unittest
from itertools import permutations

from expressions import (
    A, B, C, COUNTED, EMPTY, ENDLESS, F, FALSE, G, LOOP, MAPPED, N, SAME_THING, SUM_DOWN, TRUE, X, Y, all_small, call,
    duo, fn, less, let, link, many_kinded, many_loose, minus, name, num, opened, plus, rec, row, same, split, when,
)
from helpers import NUMBER, TRUTH, fun, gap, listed, pair, within
from kindspan.errors import KindError, NoKind, NoName
from kindspan.finding import kind_of
from kindspan.kinds import is_wider
from oracles import slow_kind, some_kinds

ONE = num(1)


def kind_or_none(tree):
    try:
        return kind_of(tree)
    except NoKind:
        return None


class Asked(unittest.TestCase):
    def told(self, tree, kind):
        self.assertEqual(kind_of(tree), kind)

    def refused(self, *trees):
        for tree in trees:
            with self.assertRaises(NoKind, msg=tree) as caught:
                kind_of(tree)
            self.assertIs(type(caught.exception), NoKind)
            self.assertIsInstance(caught.exception, KindError)


class TestEachSort(Asked):
    def test_number_truth_empty(self):
        self.told(num(3), NUMBER)
        self.told(num(0), NUMBER)
        self.told(num(-7), NUMBER)
        self.told(TRUE, TRUTH)
        self.told(FALSE, TRUTH)
        self.told(EMPTY, listed(gap(0)))

    def test_name(self):
        self.told(fn("a", A), fun(gap(0), gap(0)))
        self.told(let("a", ONE, A), NUMBER)

    def test_fun(self):
        self.told(fn("a", ONE), fun(gap(0), NUMBER))
        self.told(fn("a", plus(A, ONE)), fun(NUMBER, NUMBER))
        self.told(fn("a", fn("b", A)), fun(gap(0), fun(gap(1), gap(0))))
        self.told(fn("a", fn("b", B)), fun(gap(0), fun(gap(1), gap(1))))
        self.told(fn("f", fn("x", call(F, call(F, X)))), fun(fun(gap(0), gap(0)), fun(gap(0), gap(0))))
        self.refused(fn("a", plus(A, TRUE)), fn("a", when(A, plus(A, ONE), ONE)))

    def test_rec(self):
        self.told(rec("f", "x", X), fun(gap(0), gap(0)))
        self.told(rec("f", "x", call(F, X)), fun(gap(0), gap(1)))
        self.told(SUM_DOWN, fun(NUMBER, NUMBER))
        self.told(COUNTED, fun(NUMBER, listed(NUMBER)))
        self.told(rec("f", "x", when(TRUE, X, call(F, X))), fun(gap(0), gap(0)))
        self.told(rec("f", "x", fn("y", call(F, X, Y))), fun(gap(0), fun(gap(1), gap(2))))
        self.refused(rec("f", "x", plus(F, ONE)), rec("f", "x", call(F, F)), rec("f", "x", link(X, call(F, row(X)))))

    def test_call(self):
        self.told(call(SAME_THING, ONE), NUMBER)
        self.told(call(SAME_THING, SAME_THING), fun(gap(0), gap(0)))
        self.told(fn("f", call(F, ONE)), fun(fun(NUMBER, gap(0)), gap(0)))
        self.told(ENDLESS, gap(0))
        self.refused(call(ONE, ONE), call(TRUE, ONE), call(EMPTY, ONE), call(duo(ONE, ONE), ONE))
        self.refused(call(fn("a", plus(A, ONE)), TRUE), call(fn("f", call(F, ONE)), ONE))

    def test_let(self):
        self.told(let("a", ONE, duo(A, A)), pair(NUMBER, NUMBER))
        self.told(let("a", EMPTY, A), listed(gap(0)))
        self.told(let("a", ONE, TRUE), TRUTH)
        self.refused(let("a", ONE, call(A, A)), let("a", ONE, when(A, A, A)))

    def test_when(self):
        self.told(when(TRUE, ONE, num(2)), NUMBER)
        self.told(when(TRUE, EMPTY, row(ONE)), listed(NUMBER))
        self.told(when(TRUE, row(ONE), EMPTY), listed(NUMBER))
        self.told(fn("a", fn("b", fn("c", when(A, B, C)))), fun(TRUTH, fun(gap(0), fun(gap(0), gap(0)))))
        self.refused(when(ONE, ONE, ONE), when(EMPTY, ONE, ONE), when(TRUE, ONE, TRUE), when(TRUE, EMPTY, ONE))
        self.refused(when(TRUE, ONE, call(ONE, ONE)), when(FALSE, call(ONE, ONE), ONE))

    def test_pair(self):
        self.told(duo(ONE, TRUE), pair(NUMBER, TRUTH))
        self.told(duo(EMPTY, EMPTY), pair(listed(gap(0)), listed(gap(1))))
        self.told(fn("a", duo(A, A)), fun(gap(0), pair(gap(0), gap(0))))
        self.refused(duo(call(ONE, ONE), ONE), duo(ONE, call(ONE, ONE)))

    def test_open(self):
        self.told(opened(duo(ONE, TRUE), "a", "b", A), NUMBER)
        self.told(opened(duo(ONE, TRUE), "a", "b", B), TRUTH)
        self.told(fn("x", opened(X, "a", "b", duo(B, A))), fun(pair(gap(0), gap(1)), pair(gap(1), gap(0))))
        self.refused(opened(ONE, "a", "b", ONE), opened(EMPTY, "a", "b", ONE), opened(SAME_THING, "a", "b", ONE))
        self.refused(opened(duo(ONE, TRUE), "a", "b", plus(A, B)))

    def test_link(self):
        self.told(link(ONE, EMPTY), listed(NUMBER))
        self.told(row(EMPTY, row(TRUE)), listed(listed(TRUTH)))
        self.told(fn("a", link(A, EMPTY)), fun(gap(0), listed(gap(0))))
        self.told(fn("a", fn("b", link(A, B))), fun(gap(0), fun(listed(gap(0)), listed(gap(0)))))
        self.refused(link(ONE, ONE), link(ONE, row(TRUE)), link(EMPTY, row(ONE)), link(ONE, duo(ONE, EMPTY)))

    def test_split(self):
        self.told(split(row(ONE), num(2), "a", "b", A), NUMBER)
        self.told(split(row(TRUE), EMPTY, "a", "b", B), listed(TRUTH))
        self.told(fn("x", split(X, EMPTY, "a", "b", row(B))), fun(listed(gap(0)), listed(listed(gap(0)))))
        self.told(fn("x", fn("y", split(X, Y, "a", "b", A))), fun(listed(gap(0)), fun(gap(0), gap(0))))
        self.refused(split(ONE, ONE, "a", "b", ONE), split(duo(ONE, ONE), ONE, "a", "b", ONE))
        self.refused(split(row(ONE), TRUE, "a", "b", A), split(row(ONE), num(2), "a", "b", B))
        self.refused(split(EMPTY, call(ONE, ONE), "a", "b", ONE), split(EMPTY, ONE, "a", "b", call(ONE, ONE)))

    def test_op(self):
        for op, kind in ((plus, NUMBER), (minus, NUMBER), (less, TRUTH), (same, TRUTH)):
            self.told(op(ONE, ONE), kind)
            self.told(fn("a", fn("b", op(A, B))), fun(NUMBER, fun(NUMBER, kind)))
            self.refused(op(TRUE, ONE), op(ONE, TRUE), op(EMPTY, ONE), op(ONE, SAME_THING), op(TRUE, TRUE))

    def test_the_answer_is_plain(self):
        self.told(fn("a", fn("b", duo(B, duo(EMPTY, A)))), fun(gap(0), fun(gap(1), pair(gap(1), pair(listed(gap(2)), gap(0))))))
        self.told(MAPPED, fun(fun(gap(0), gap(1)), fun(listed(gap(0)), listed(gap(1)))))


class TestWhatIsGiven(Asked):
    def test_what_let_gives_at_two_kinds(self):
        self.told(let("f", SAME_THING, duo(call(F, ONE), call(F, TRUE))), pair(NUMBER, TRUTH))
        self.told(let("a", EMPTY, duo(link(ONE, A), link(TRUE, A))), pair(listed(NUMBER), listed(TRUTH)))
        self.told(let("f", rec("g", "x", X), call(F, F)), fun(gap(0), gap(0)))
        self.told(let("a", duo(EMPTY, SAME_THING), opened(A, "b", "c", duo(link(ONE, B), A))),
                  pair(listed(NUMBER), pair(listed(gap(0)), fun(gap(1), gap(1)))))
        self.told(let("a", call(SAME_THING, EMPTY), duo(link(ONE, A), link(TRUE, A))), pair(listed(NUMBER), listed(TRUTH)))

    def test_what_let_gives_of_any_kind_at_all(self):
        self.told(let("a", ENDLESS, duo(plus(A, ONE), when(A, ONE, ONE))), pair(NUMBER, NUMBER))
        self.told(fn("f", let("a", ENDLESS, call(F, A, A))), fun(fun(gap(0), fun(gap(1), gap(2))), gap(2)))
        self.told(fn("b", let("a", ENDLESS, let("c", A, duo(B, duo(C, C))))), fun(gap(0), pair(gap(0), pair(gap(1), gap(2)))))

    def test_a_let_in_the_first_expression_of_a_let(self):
        tree = let("f", let("g", SAME_THING, duo(call(G, G), G)), opened(F, "a", "b", duo(call(A, ONE), call(A, ONE))))
        self.told(tree, pair(NUMBER, NUMBER))
        twice = let("f", let("g", SAME_THING, fn("x", call(G, X))), duo(call(F, ONE), call(F, TRUE)))
        self.told(twice, pair(NUMBER, TRUTH))

    def test_what_others_give_at_two_kinds(self):
        both = duo(call(F, ONE), call(F, TRUE))
        self.refused(call(fn("f", both), SAME_THING))
        self.refused(rec("f", "x", both))
        self.refused(call(rec("g", "f", both), SAME_THING))
        self.refused(opened(duo(SAME_THING, ONE), "f", "x", both))
        self.refused(opened(duo(ONE, SAME_THING), "x", "f", both))
        self.refused(split(row(SAME_THING), duo(ONE, TRUE), "f", "x", both))
        self.refused(split(row(ONE), duo(EMPTY, EMPTY), "x", "f", duo(link(ONE, F), link(TRUE, F))))
        self.told(let("f", SAME_THING, both), pair(NUMBER, TRUTH))

    def test_a_let_hanging_on_a_function_s_name(self):
        # All of b's kind is the name's own: one and the same at both places.
        self.told(fn("a", let("b", A, duo(B, B))), fun(gap(0), pair(gap(0), gap(0))))
        self.refused(fn("a", let("b", A, duo(plus(B, ONE), when(B, ONE, ONE)))))
        self.refused(fn("f", let("g", F, duo(call(G, ONE), call(G, TRUE)))))
        # One part is the name's own, the other one anew at each place.
        half = fn("a", let("b", duo(A, EMPTY), duo(B, B)))
        self.told(half, fun(gap(0), pair(pair(gap(0), listed(gap(1))), pair(gap(0), listed(gap(2))))))
        half = fn("a", let("f", fn("x", duo(A, X)), duo(call(F, ONE), call(F, TRUE))))
        self.told(half, fun(gap(0), pair(pair(gap(0), NUMBER), pair(gap(0), TRUTH))))
        self.refused(fn("a", let("f", fn("x", duo(A, X)), opened(
            duo(call(F, ONE), call(F, TRUE)), "b", "c",
            opened(B, "x", "y", opened(C, "y", "c", duo(plus(X, ONE), when(Y, ONE, ONE))))))))

    def test_a_let_that_fills_the_name_round_it(self):
        self.told(fn("a", let("b", plus(A, ONE), A)), fun(NUMBER, NUMBER))
        self.told(fn("f", let("b", call(F, ONE), F)), fun(fun(NUMBER, gap(0)), fun(NUMBER, gap(0))))
        self.refused(fn("f", let("b", call(F, ONE), duo(plus(B, ONE), when(B, ONE, ONE)))))
        # The name's kind is known only behind the let that hangs on it.
        self.told(fn("a", let("b", fn("x", A), duo(plus(call(B, TRUE), ONE), call(B, ONE)))),
                  fun(NUMBER, pair(NUMBER, NUMBER)))

    def test_a_let_whose_first_expression_has_no_kind(self):
        self.refused(let("a", call(ONE, ONE), ONE))
        self.refused(let("a", fn("x", call(X, X)), ONE))
        self.refused(let("a", plus(ONE, TRUE), let("a", ONE, A)))
        self.refused(fn("b", let("a", when(B, B, plus(B, ONE)), ONE)))

    def test_a_gap_within_its_own_kind(self):
        self.refused(fn("x", call(X, X)))
        self.refused(call(fn("x", call(X, X)), fn("x", call(X, X))))
        self.refused(fn("x", link(X, X)), fn("x", when(TRUE, X, duo(X, X))), fn("x", when(TRUE, X, row(X))))
        self.refused(rec("f", "x", F), rec("f", "x", fn("y", F)), rec("f", "x", duo(call(F, X), X)))
        self.refused(fn("x", split(X, ONE, "a", "b", call(fn("y", ONE), link(B, A)))))
        self.refused(fn("a", fn("b", row(duo(A, B), duo(row(B), row(A))))))
        # Two such gaps that are to be the same.
        for things in permutations((duo(A, B), duo(row(A), row(B)), duo(B, A))):
            self.refused(fn("a", fn("b", row(*things))))
            self.refused(fn("a", fn("b", let("c", row(*things), duo(C, C)))))

    def test_a_gap_within_its_own_kind_that_is_not_told(self):
        hidden = fn("x", call(X, X))
        self.refused(call(fn("a", ONE), hidden))
        self.refused(opened(duo(hidden, ONE), "a", "b", B))
        self.refused(let("a", fn("b", call(fn("c", ONE), hidden)), ONE))
        self.refused(call(fn("a", ONE), let("f", fn("x", fn("y", call(X, X))), duo(F, F))))

    def test_a_rec_that_calls_itself(self):
        self.told(LOOP, fun(NUMBER, NUMBER))
        self.told(rec("f", "x", split(X, num(0), "a", "b", plus(ONE, call(F, B)))), fun(listed(gap(0)), NUMBER))
        joined = rec("f", "x", fn("y", split(X, Y, "a", "b", link(A, call(F, B, Y)))))
        self.told(joined, fun(listed(gap(0)), fun(listed(gap(0)), listed(gap(0)))))
        # Within itself it has one kind, behind a let many.
        self.refused(rec("f", "x", let("a", call(F, ONE), let("b", call(F, TRUE), X))))
        size = rec("f", "x", split(X, num(0), "a", "b", plus(ONE, call(F, B))))
        self.told(let("f", size, plus(call(F, row(ONE)), call(F, row(TRUE)))), NUMBER)

    def test_two_names_that_are_alike(self):
        self.told(rec("a", "a", A), fun(gap(0), gap(0)))
        self.told(rec("a", "a", plus(A, ONE)), fun(NUMBER, NUMBER))
        self.told(opened(duo(ONE, TRUE), "a", "a", A), TRUTH)
        self.told(opened(duo(TRUE, ONE), "a", "a", plus(A, ONE)), NUMBER)
        self.refused(opened(duo(ONE, TRUE), "a", "a", plus(A, ONE)))
        self.told(split(row(ONE), EMPTY, "a", "a", A), listed(NUMBER))
        self.refused(split(row(ONE), num(2), "a", "a", A))

    def test_names_that_hide_others(self):
        self.told(fn("a", fn("a", A)), fun(gap(0), fun(gap(1), gap(1))))
        self.told(fn("a", duo(call(fn("a", plus(A, ONE)), ONE), A)), fun(gap(0), pair(NUMBER, gap(0))))
        self.told(let("a", ONE, let("a", TRUE, A)), TRUTH)
        self.told(let("a", ONE, let("a", duo(A, A), A)), pair(NUMBER, NUMBER))
        self.told(let("a", EMPTY, fn("a", plus(A, ONE))), fun(NUMBER, NUMBER))
        self.told(let("a", ONE, duo(let("a", TRUE, A), A)), pair(TRUTH, NUMBER))
        self.told(opened(duo(ONE, TRUE), "a", "b", opened(duo(B, A), "a", "b", duo(A, B))), pair(TRUTH, NUMBER))
        self.told(fn("a", split(A, ONE, "a", "b", plus(A, ONE))), fun(listed(NUMBER), NUMBER))
        self.told(fn("a", fn("f", rec("f", "a", call(F, plus(A, ONE))))), fun(gap(0), fun(gap(1), fun(NUMBER, gap(2)))))
        self.told(let("f", SAME_THING, fn("f", duo(call(F, ONE), ONE))), fun(fun(NUMBER, gap(0)), pair(gap(0), NUMBER)))
        self.refused(let("f", SAME_THING, fn("f", duo(call(F, ONE), call(F, TRUE)))))


class TestNoName(unittest.TestCase):
    def missing(self, tree, n):
        with self.assertRaises(NoName, msg=tree) as caught:
            kind_of(tree)
        self.assertIs(type(caught.exception), NoName)
        self.assertIsInstance(caught.exception, KindError)
        self.assertEqual(caught.exception.name, n)

    def test_each_sort(self):
        self.missing(A, "a")
        self.missing(fn("a", B), "b")
        self.missing(rec("a", "b", C), "c")
        for make in (call, duo, link, plus, less):
            self.missing(make(A, B), "a")
            self.missing(make(ONE, B), "b")
        self.missing(let("a", B, C), "b")
        self.missing(let("a", ONE, C), "c")
        self.missing(when(A, B, C), "a")
        self.missing(when(TRUE, B, C), "b")
        self.missing(when(TRUE, ONE, C), "c")
        self.missing(opened(C, "a", "b", X), "c")
        self.missing(opened(duo(ONE, ONE), "a", "b", X), "x")
        self.missing(split(A, B, "a", "b", C), "a")
        self.missing(split(EMPTY, B, "a", "b", C), "b")
        self.missing(split(EMPTY, ONE, "a", "b", C), "c")

    def test_first_of_all_also_where_there_is_no_kind(self):
        self.missing(duo(call(ONE, ONE), A), "a")
        self.missing(let("a", fn("x", call(X, X)), B), "b")
        self.missing(plus(TRUE, plus(C, A)), "c")
        self.missing(call(ONE, fn("x", call(X, call(X, Y)))), "y")

    def test_the_first_from_the_left_as_it_is_written(self):
        self.missing(duo(duo(ONE, duo(B, A)), C), "b")
        self.missing(duo(fn("x", fn("y", B)), A), "b")
        self.missing(let("x", fn("y", C), A), "c")
        self.missing(opened(fn("x", B), "b", "a", C), "b")
        self.missing(split(fn("x", Y), A, "a", "b", C), "y")
        self.missing(when(fn("a", A), fn("b", C), B), "c")

    def test_given_elsewhere_but_not_there(self):
        self.missing(duo(fn("a", A), A), "a")
        self.missing(let("a", A, A), "a")
        self.missing(let("a", duo(ONE, A), B), "a")
        self.missing(duo(let("a", ONE, A), A), "a")
        self.missing(opened(A, "a", "b", A), "a")
        self.missing(opened(duo(ONE, B), "a", "b", B), "b")
        self.missing(split(B, ONE, "a", "b", B), "b")
        self.missing(split(EMPTY, A, "a", "b", A), "a")
        self.missing(call(rec("f", "x", X), F), "f")
        self.missing(call(rec("f", "x", X), X), "x")

    def test_names_of_eight_letters(self):
        self.missing(duo(ONE, name("abcdefgh")), "abcdefgh")
        self.assertEqual(kind_of(fn("abcdefgh", name("abcdefgh"))), fun(gap(0), gap(0)))


class TestMany(unittest.TestCase):
    def test_every_small_expression(self):
        for size in (1, 2, 3, 4):
            for tree in all_small(size):
                self.assertEqual(kind_or_none(tree), slow_kind(tree), tree)

    def test_larger_ones(self):
        for tree in all_small(5)[::11] + many_loose(1500) + many_kinded(400):
            self.assertEqual(kind_or_none(tree), slow_kind(tree), tree)

    def test_those_with_a_kind_have_it(self):
        for tree in many_kinded(300):
            self.assertIsNotNone(kind_or_none(tree), tree)

    def test_as_wide_as_any_that_it_can_have(self):
        told_some = 0
        for tree in all_small(4)[::2] + all_small(5)[::29] + many_kinded(60, 2):
            kind = kind_or_none(tree)
            for other in some_kinds(tree):
                told_some += 1
                self.assertIsNotNone(kind, tree)
                self.assertTrue(is_wider(kind, other), (tree, kind, other))
        self.assertGreater(told_some, 500)

    def test_gaps_are_numbered_as_they_come(self):
        for tree in all_small(4) + many_loose(600):
            kind = kind_or_none(tree)
            if kind is not None:
                met = list(dict.fromkeys(part[1] for part in within(kind) if part[0] == "any"))
                self.assertEqual(met, list(range(len(met))))


if __name__ == "__main__":
    unittest.main()
