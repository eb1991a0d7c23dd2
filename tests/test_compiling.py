"""[4.4]: code made of expressions."""

import unittest

from expressions import (
    A, B, C, COUNTED, EMPTY, ENDLESS, F, FALSE, LOOP, MAPPED, SAME_THING, STUCK_ONES, SUM_DOWN, TRUE, X, Y, all_small,
    call, duo, fn, less, let, link, many_kinded, many_loose, minus, num, opened, plus, rec, row, same, split, tuples, when,
)
from kindspan.compiling import compiled
from kindspan.errors import Stuck
from kindspan.machine import done
from kindspan.steps import run, shown
from oracles import slow_run, slow_shown

ONE = num(1)
TWO = num(2)
MOSTS = (0, 1, 2, 3, 8)


def run_shown(tree, most):
    try:
        told = run(tree, most)
    except Stuck:
        return "stuck"
    return None if told is None else (shown(told[0]), told[1])


def slow_run_shown(tree, most):
    told = slow_run(tree, most)
    return (slow_shown(told[0]), told[1]) if isinstance(told, tuple) else told


def done_or_stuck(code, most):
    try:
        return done(code, most)
    except Stuck:
        return "stuck"


class TestCompiled(unittest.TestCase):
    def check(self, tree, mosts=MOSTS):
        code = compiled(tree)
        self.assertIs(type(code), list)
        self.assertLessEqual(len(code), 4 * tuples(tree) + 1)
        for step in code:
            self.check_step(step)
        for most in mosts:
            self.assertEqual(done_or_stuck(code, most), slow_run_shown(tree, most), (tree, most))
            self.assertEqual(run_shown(tree, most), slow_run_shown(tree, most), (tree, most))

    def check_step(self, step):
        """Of the form that [4.1] tells."""
        self.assertIs(type(step), tuple)
        word = step[0]
        if word in ("empty", "pair", "link", "call", "back", "let", "open", "end"):
            self.assertEqual(len(step), 1)
        elif word in ("name", "fun", "rec", "drop", "jump", "when", "split"):
            self.assertEqual(len(step), 2)
            self.assertIs(type(step[1]), int)
            self.assertGreaterEqual(step[1], 0)
        elif word == "op":
            self.assertIn(step, [("op", op) for op in ("plus", "minus", "less", "same")])
        else:
            self.assertIn((word, type(step[1])), (("number", int), ("truth", bool)))

    def test_each_sort(self):
        for tree in (
            num(5), num(-5), TRUE, FALSE, EMPTY, SAME_THING, LOOP,
            call(SAME_THING, ONE), call(fn("a", fn("b", duo(A, B))), ONE, TWO), call(SUM_DOWN, num(5)),
            let("a", ONE, A), let("a", ONE, let("b", TWO, duo(A, B))), duo(let("a", ONE, A), let("b", TWO, B)),
            when(TRUE, ONE, TWO), when(FALSE, ONE, TWO), when(less(ONE, TWO), duo(ONE, TWO), EMPTY),
            duo(ONE, TWO), duo(duo(ONE, TWO), EMPTY), link(ONE, EMPTY), row(ONE, TWO), link(ONE, TWO),
            opened(duo(ONE, TWO), "a", "b", duo(B, A)), split(EMPTY, ONE, "a", "b", A),
            split(row(ONE, TWO), ONE, "a", "b", duo(B, A)), split(link(ONE, TRUE), ONE, "a", "b", B),
            plus(ONE, TWO), minus(ONE, TWO), less(ONE, TWO), same(ONE, TWO),
        ):
            self.check(tree)

    def test_names_within_names(self):
        self.check(let("a", ONE, duo(let("b", TWO, duo(A, B)), A)))
        self.check(let("a", ONE, duo(opened(duo(TWO, TRUE), "b", "c", duo(A, duo(B, C))), A)))
        self.check(let("a", ONE, duo(split(row(TWO), EMPTY, "b", "c", duo(A, duo(B, C))), A)))
        self.check(let("a", ONE, duo(split(EMPTY, A, "b", "c", duo(A, duo(B, C))), A)))
        self.check(let("a", ONE, duo(call(fn("b", duo(A, B)), TWO), A)))
        self.check(let("a", ONE, duo(call(rec("f", "b", duo(A, duo(F, B))), TWO), A)))
        self.check(let("a", ONE, when(less(A, TWO), let("a", duo(A, A), A), A)))
        self.check(let("a", ONE, let("a", duo(A, TWO), duo(A, A))))
        self.check(call(fn("a", call(fn("a", plus(A, ONE)), plus(A, A))), TWO))
        self.check(call(let("a", ONE, fn("b", duo(A, B))), let("b", TWO, duo(B, B))))
        self.check(let("f", fn("x", fn("y", duo(X, Y))), let("x", ONE, call(F, TWO, X))))

    def test_two_names_that_are_alike(self):
        self.check(call(rec("a", "a", A), ONE))
        self.check(let("b", TRUE, call(rec("a", "a", duo(A, B)), ONE)))
        self.check(let("b", TRUE, opened(duo(ONE, TWO), "a", "a", duo(A, B))))
        self.check(let("b", TRUE, split(row(ONE, TWO), EMPTY, "a", "a", duo(A, B))))

    def test_functions_are_shown(self):
        self.check(duo(SAME_THING, row(LOOP)))
        self.check(call(MAPPED, fn("x", fn("y", duo(X, Y))), row(ONE, TWO)), MOSTS + (6, 7))

    def test_as_many_calls(self):
        for tree, calls in ((call(SUM_DOWN, num(9)), 10), (call(COUNTED, num(4)), 5), (call(LOOP, num(15)), 16)):
            code = compiled(tree)
            self.assertIsNone(done(code, calls - 1))
            self.assertEqual(done(code, calls)[1], calls)
            self.check(tree, (calls - 1, calls, calls + 1))

    def test_stuck_and_none_as_in_the_run(self):
        for tree in STUCK_ONES:
            self.check(tree)
            self.check(let("a", call(SUM_DOWN, TWO), tree))
            self.check(let("a", tree, call(SUM_DOWN, TWO)))
            self.check(duo(ENDLESS, tree))
            self.check(call(tree, ENDLESS))
            self.check(call(ONE, duo(ENDLESS, tree)))
            self.check(fn("a", tree))
        self.check(call(ONE, ENDLESS))
        self.check(plus(TRUE, ENDLESS))
        self.check(ENDLESS)

    def test_every_small_expression(self):
        for size in (1, 2, 3, 4):
            for tree in all_small(size):
                self.check(tree, (0, 1, 3))

    def test_many_expressions(self):
        for tree in all_small(5)[::41] + many_loose(1000) + many_kinded(150):
            self.check(tree)

    def test_the_list_is_a_new_one(self):
        tree = let("a", ONE, duo(A, A))
        code = compiled(tree)
        kept = list(code)
        code.clear()
        self.assertEqual(compiled(tree), kept)
        self.assertEqual(tree, ("let", "a", ONE, ("pair", A, A)))


if __name__ == "__main__":
    unittest.main()
