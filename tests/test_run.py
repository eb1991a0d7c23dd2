"""[3.3]: run, and what is shown of a value."""

import unittest

from expressions import (
    A, B, COUNTED, EMPTY, ENDLESS, F, FALSE, G, LOOP, MAPPED, N, SAME_THING, STUCK_ONES, SUM_DOWN, TRUE, X, Y,
    all_small, call, duo, fn, less, let, link, many_kinded, many_loose, minus, num, opened, plus, rec, row, split, when,
)
from kindspan.errors import KindError, Stuck
from kindspan.steps import is_value, run, shown
from oracles import slow_run, slow_shown

ONE = num(1)
TWO = num(2)


def run_or_stuck(tree, most):
    try:
        return run(tree, most)
    except Stuck:
        return "stuck"


class TestRun(unittest.TestCase):
    def comes(self, tree, value, calls):
        """To this value, by so many calls: so it does with that most, but not with one fewer."""
        for most in (calls, calls + 1, calls + 1000, 10 ** 60):
            told = run(tree, most)
            self.assertIs(type(told), tuple)
            self.assertEqual(told, (value, calls), tree)
        for most in range(max(0, calls - 3), calls):
            self.assertIsNone(run(tree, most), tree)

    def test_values(self):
        for value in (ONE, TRUE, EMPTY, SAME_THING, LOOP, duo(ONE, SAME_THING), row(ONE, TWO), link(ONE, TWO)):
            self.comes(value, value, 0)

    def test_without_calls(self):
        self.comes(plus(ONE, TWO), num(3), 0)
        self.comes(let("a", plus(ONE, ONE), duo(A, A)), duo(TWO, TWO), 0)
        self.comes(when(less(ONE, TWO), ONE, ENDLESS), ONE, 0)
        self.comes(opened(duo(ONE, plus(ONE, ONE)), "a", "b", minus(A, B)), num(-1), 0)
        self.comes(split(row(plus(ONE, ONE)), ENDLESS, "a", "b", duo(A, B)), duo(TWO, EMPTY), 0)
        self.comes(split(EMPTY, ONE, "a", "b", ENDLESS), ONE, 0)

    def test_calls(self):
        self.comes(call(SAME_THING, ONE), ONE, 1)
        self.comes(call(SAME_THING, SAME_THING, ONE), ONE, 2)
        self.comes(call(fn("a", fn("b", minus(A, B))), num(5), num(3)), TWO, 2)
        self.comes(duo(call(SAME_THING, ONE), call(SAME_THING, TWO)), duo(ONE, TWO), 2)
        self.comes(call(SUM_DOWN, num(10)), num(55), 11)
        self.comes(call(LOOP, num(20)), num(7), 21)
        self.comes(call(COUNTED, num(3)), row(num(3), TWO, ONE), 4)
        self.comes(call(MAPPED, fn("x", plus(X, X)), row(ONE, TWO)), row(TWO, num(4)), 6)

    def test_functions_have_the_values_in_place(self):
        self.comes(let("a", ONE, fn("b", duo(A, B))), fn("b", duo(ONE, B)), 0)
        self.comes(call(fn("a", fn("b", duo(A, B))), SAME_THING), fn("b", duo(SAME_THING, B)), 1)
        self.comes(let("a", ONE, fn("a", A)), fn("a", A), 0)
        self.comes(let("a", ONE, rec("f", "x", let("a", plus(A, X), call(F, A)))),
                   rec("f", "x", let("a", plus(ONE, X), call(F, A))), 0)
        self.comes(let("a", ONE, fn("x", split(X, A, "a", "b", duo(A, B)))), fn("x", split(X, ONE, "a", "b", duo(A, B))), 0)
        self.comes(let("a", ONE, fn("x", opened(A, "b", "a", duo(A, B)))), fn("x", opened(ONE, "b", "a", duo(A, B))), 0)
        self.comes(let("a", ONE, let("b", fn("x", A), let("a", TWO, fn("y", call(B, A))))), fn("y", call(fn("x", ONE), TWO)), 0)
        loop = rec("f", "x", fn("y", call(F, duo(X, Y))))
        self.comes(call(loop, ONE), fn("y", call(loop, duo(ONE, Y))), 1)
        self.comes(call(rec("f", "x", fn("g", duo(F, call(G, X)))), ONE),
                   fn("g", duo(rec("f", "x", fn("g", duo(F, call(G, X)))), call(G, ONE))), 1)
        self.comes(duo(let("a", ONE, fn("b", A)), row(let("a", EMPTY, fn("b", A)))), duo(fn("b", ONE), row(fn("b", EMPTY))), 0)

    def test_two_names_that_are_alike(self):
        self.comes(call(rec("a", "a", A), ONE), ONE, 1)
        self.comes(opened(duo(ONE, TWO), "a", "a", A), TWO, 0)
        self.comes(split(row(ONE, TWO), ONE, "a", "a", A), row(TWO), 0)

    def test_stuck(self):
        for tree in STUCK_ONES:
            for most in (0, 1, 7):
                with self.assertRaises(Stuck, msg=tree) as caught:
                    run(tree, most)
                self.assertIs(type(caught.exception), Stuck)
                self.assertIsInstance(caught.exception, KindError)

    def test_stuck_ahead_of_and_behind_the_last_call_that_may_be(self):
        for tree in STUCK_ONES:
            behind = let("a", call(SUM_DOWN, num(2)), tree)
            for most in (0, 1, 2):
                self.assertIsNone(run(behind, most))
            for most in (3, 4):
                with self.assertRaises(Stuck):
                    run(behind, most)
            ahead = let("a", tree, call(SUM_DOWN, num(2)))
            for most in (0, 1, 2, 3):
                with self.assertRaises(Stuck):
                    run(ahead, most)
            within = call(rec("f", "n", when(less(N, ONE), tree, call(F, minus(N, ONE)))), num(4))
            self.assertIsNone(run(within, 4))
            with self.assertRaises(Stuck):
                run(within, 5)

    def test_a_call_of_no_function_is_stuck_and_no_call(self):
        with self.assertRaises(Stuck):
            run(call(ONE, ONE), 0)
        with self.assertRaises(Stuck):
            run(call(ONE, call(SAME_THING, ONE)), 1)
        self.assertIsNone(run(call(ONE, call(SAME_THING, ONE)), 0))

    def test_one_that_never_ends(self):
        for most in (0, 1, 2, 100, 20000):
            self.assertIsNone(run(ENDLESS, most))
        self.assertIsNone(run(call(rec("f", "x", plus(ONE, call(F, X))), ONE), 20000))
        self.assertIsNone(run(call(fn("x", call(X, X)), fn("x", call(X, X))), 20000))
        self.assertIsNone(run(call(ONE, ENDLESS), 100))

    def test_long_runs(self):
        self.assertEqual(run(call(SUM_DOWN, num(20000)), 20001), (num(200010000), 20001))
        value, calls = run(call(COUNTED, num(20000)), 10 ** 6)
        self.assertEqual(calls, 20001)
        self.assertIs(is_value(value), True)
        for k in range(20000):
            self.assertEqual(value[1], num(20000 - k))
            value = value[2]
        self.assertEqual(value, EMPTY)

    def test_functions_far_within_functions(self):
        built = rec("f", "n", when(less(N, ONE), SAME_THING, let("g", call(F, minus(N, ONE)), fn("x", plus(ONE, call(G, X))))))
        value, calls = run(call(built, num(4000)), 10 ** 6)
        self.assertEqual(calls, 4001)
        for _ in range(4000):
            self.assertEqual(value[:2], ("fun", "x"))
            self.assertEqual(value[2][:3], ("op", "plus", ONE))
            value = value[2][3][1]
        self.assertEqual(value, SAME_THING)
        self.assertEqual(run(call(call(built, num(4000)), ONE), 10 ** 6), (num(4001), 8002))

    def test_values_that_are_met_at_many_places(self):
        tree = A
        for _ in range(60):
            tree = let("a", duo(A, A), tree)
        value, calls = run(let("a", ONE, tree), 0)
        for _ in range(60):
            self.assertEqual(value[0], "pair")
            value = value[2]
        self.assertEqual((value, calls), (ONE, 0))
        tree = A
        for _ in range(60):
            tree = let("a", fn("x", call(A, call(A, X))), tree)
        value, calls = run(let("a", SAME_THING, tree), 0)
        for _ in range(60):
            self.assertEqual(value[0:2], ("fun", "x"))
            value = value[2][2][1]
        self.assertEqual((value, calls), (SAME_THING, 0))

    def test_every_small_expression(self):
        for size in (1, 2, 3, 4):
            for tree in all_small(size):
                for most in (0, 1, 4):
                    self.assertEqual(run_or_stuck(tree, most), slow_run(tree, most), tree)

    def test_many_expressions(self):
        for tree in all_small(5)[::31] + many_loose(1200) + many_kinded(150):
            for most in (0, 1, 2, 3, 8):
                self.assertEqual(run_or_stuck(tree, most), slow_run(tree, most), tree)

    def test_what_is_handed_in_stays(self):
        tree = call(fn("a", fn("b", duo(A, B))), row(ONE))
        run(tree, 5)
        self.assertEqual(tree, ("call", ("fun", "a", ("fun", "b", ("pair", A, B))), ("link", ONE, EMPTY)))
        self.assertEqual(run(tree, 5), run(tree, 5))


class TestShown(unittest.TestCase):
    def test_each_sort(self):
        for value in (ONE, num(-2), TRUE, FALSE, EMPTY):
            self.assertEqual(shown(value), value)
        self.assertEqual(shown(SAME_THING), ("fun",))
        self.assertEqual(shown(LOOP), ("fun",))

    def test_within_pairs_and_links(self):
        self.assertEqual(shown(duo(SAME_THING, ONE)), ("pair", ("fun",), ONE))
        self.assertEqual(shown(duo(ONE, LOOP)), ("pair", ONE, ("fun",)))
        self.assertEqual(shown(row(LOOP, SAME_THING)), ("link", ("fun",), ("link", ("fun",), EMPTY)))
        self.assertEqual(shown(link(ONE, SAME_THING)), ("link", ONE, ("fun",)))
        self.assertEqual(shown(duo(duo(TRUE, EMPTY), row(duo(LOOP, ONE)))),
                         ("pair", ("pair", TRUE, EMPTY), ("link", ("pair", ("fun",), ONE), EMPTY)))

    def test_without_functions_nothing_changes(self):
        value = duo(row(ONE, TWO), link(TRUE, FALSE))
        self.assertEqual(shown(value), value)

    def test_many(self):
        for tree in many_kinded(150):
            told = slow_run(tree, 10)
            if told is not None:
                self.assertEqual(shown(told[0]), slow_shown(told[0]))

    def test_far_within(self):
        whole = EMPTY
        for _ in range(20000):
            whole = link(SAME_THING, whole)
        told = shown(whole)
        for _ in range(20000):
            self.assertEqual(told[:2], ("link", ("fun",)))
            told = told[2]
        self.assertEqual(told, EMPTY)


if __name__ == "__main__":
    unittest.main()
