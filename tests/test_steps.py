"""[3.1] and [3.2]: values and steps."""

import unittest

from expressions import (
    A, B, COUNTED, EMPTY, ENDLESS, F, FALSE, G, LOOP, SAME_THING, STUCK_ONES, TRUE, X, Y, all_small, call, duo, fn,
    less, let, link, many_kinded, many_loose, minus, num, opened, plus, rec, row, same, split, when,
)
from kindspan.errors import KindError, Stuck
from kindspan.steps import is_value, step
from oracles import SlowStuck, slow_is_value, slow_step

ONE = num(1)
TWO = num(2)
THREE = num(3)
VALUES = [
    ONE, num(0), num(-4), TRUE, FALSE, EMPTY, SAME_THING, LOOP, duo(ONE, TRUE), row(ONE), row(ONE, TWO),
    duo(SAME_THING, duo(EMPTY, row(LOOP))), link(ONE, TWO), link(EMPTY, TRUE), link(row(ONE), duo(ONE, ONE)),
    fn("a", plus(ONE, TRUE)), fn("a", ENDLESS), rec("f", "x", call(ONE, ONE)),
]
ADDED = plus(ONE, TWO)


def slow_or_stuck(tree):
    try:
        return slow_step(tree)
    except SlowStuck:
        return "stuck"


def step_or_stuck(tree):
    try:
        return step(tree)
    except Stuck:
        return "stuck"


class TestValues(unittest.TestCase):
    def test_each_sort(self):
        for tree in VALUES:
            self.assertIs(is_value(tree), True, tree)
            self.assertIsNone(step(tree))

    def test_what_is_none(self):
        for tree in (
            call(SAME_THING, ONE), let("a", ONE, A), when(TRUE, ONE, TWO), opened(duo(ONE, TWO), "a", "b", A),
            split(EMPTY, ONE, "a", "b", A), ADDED, less(ONE, TWO),
        ):
            self.assertIs(is_value(tree), False, tree)
            for whole in (duo(tree, ONE), duo(ONE, tree), link(tree, EMPTY), link(ONE, tree), duo(ONE, row(ONE, tree))):
                self.assertIs(is_value(whole), False, whole)
            self.assertIs(is_value(fn("x", tree)), True)
            self.assertIs(is_value(duo(rec("f", "x", tree), fn("x", tree))), True)

    def test_what_is_stuck_is_no_value(self):
        for tree in STUCK_ONES:
            self.assertIs(is_value(tree), False, tree)


class TestSteps(unittest.TestCase):
    def goes(self, tree, other, was_call=False):
        told = step(tree)
        self.assertIs(type(told), tuple)
        self.assertEqual(len(told), 2)
        self.assertEqual(told[0], other)
        self.assertIs(told[1], was_call)

    def test_call_of_a_fun(self):
        self.goes(call(fn("a", duo(A, A)), ONE), duo(ONE, ONE), True)
        self.goes(call(fn("a", TWO), ONE), TWO, True)
        self.goes(call(fn("a", call(A, A)), SAME_THING), call(SAME_THING, SAME_THING), True)

    def test_call_of_a_rec_gives_both_names(self):
        function = rec("f", "x", duo(F, duo(X, F)))
        self.goes(call(function, ONE), duo(function, duo(ONE, function)), True)
        loop = rec("f", "x", call(F, X))
        self.goes(call(loop, TWO), call(loop, TWO), True)
        self.goes(call(loop, loop), call(loop, loop), True)

    def test_let(self):
        self.goes(let("a", ONE, duo(A, A)), duo(ONE, ONE))
        self.goes(let("a", ONE, TWO), TWO)
        self.goes(let("a", SAME_THING, call(A, ONE)), call(SAME_THING, ONE))

    def test_when(self):
        self.goes(when(TRUE, ADDED, ENDLESS), ADDED)
        self.goes(when(FALSE, ENDLESS, ADDED), ADDED)

    def test_open(self):
        self.goes(opened(duo(ONE, TWO), "a", "b", duo(B, A)), duo(TWO, ONE))
        self.goes(opened(duo(ONE, duo(TWO, EMPTY)), "a", "b", B), duo(TWO, EMPTY))

    def test_split(self):
        self.goes(split(EMPTY, ADDED, "a", "b", A), ADDED)
        self.goes(split(row(ONE, TWO), ENDLESS, "a", "b", duo(B, A)), duo(row(TWO), ONE))

    def test_split_of_a_link_whose_rest_is_no_list(self):
        self.goes(split(link(ONE, TWO), ONE, "a", "b", duo(A, B)), duo(ONE, TWO))
        self.goes(split(link(ONE, TRUE), ONE, "a", "b", B), TRUE)
        self.goes(split(link(EMPTY, SAME_THING), ONE, "a", "b", B), SAME_THING)

    def test_op(self):
        self.goes(plus(ONE, TWO), THREE)
        self.goes(minus(ONE, TWO), num(-1))
        for one, other in ((1, 2), (2, 1), (2, 2), (-3, -2), (0, -1)):
            self.goes(less(num(one), num(other)), ("truth", one < other))
            self.goes(same(num(one), num(other)), ("truth", one == other))
        self.assertIs(step(less(ONE, TWO))[0][1], True)
        self.assertIs(step(same(ONE, TWO))[0][1], False)

    def test_numbers_of_60_figures(self):
        great = 10 ** 60 - 1
        self.goes(plus(num(great), num(great)), num(2 * great))
        self.goes(minus(num(-great), num(great)), num(-2 * great))
        self.goes(less(num(great - 1), num(great)), TRUE)
        self.goes(same(num(great), num(great - 1)), FALSE)
        self.goes(same(num(10 ** 59), num(10 ** 59)), TRUE)

    def test_the_parts_from_the_left(self):
        second = less(ONE, TWO)
        for make in (call, plus, less, duo, link):
            self.goes(make(ADDED, second), make(THREE, second))
            self.goes(make(THREE, second), make(THREE, TRUE))
            self.goes(make(ADDED, TRUE), make(THREE, TRUE))
            self.goes(make(duo(ONE, ADDED), second), make(duo(ONE, THREE), second))

    def test_only_the_first_part_of_let_when_open_split(self):
        self.goes(let("a", ADDED, plus(A, ADDED)), let("a", THREE, plus(A, ADDED)))
        self.goes(when(less(ONE, TWO), ADDED, ADDED), when(TRUE, ADDED, ADDED))
        self.goes(opened(duo(ADDED, ONE), "a", "b", ADDED), opened(duo(THREE, ONE), "a", "b", ADDED))
        self.goes(split(row(ADDED), ADDED, "a", "b", ADDED), split(row(THREE), ADDED, "a", "b", ADDED))

    def test_nothing_within_a_function_steps(self):
        self.assertIsNone(step(fn("a", ADDED)))
        self.goes(duo(fn("a", ADDED), ADDED), duo(fn("a", ADDED), THREE))

    def test_a_call_deep_within(self):
        inner = call(SAME_THING, ONE)
        self.goes(plus(plus(ONE, inner), ADDED), plus(plus(ONE, ONE), ADDED), True)
        self.goes(let("a", duo(ONE, when(less(inner, TWO), ONE, TWO)), A), let("a", duo(ONE, when(less(ONE, TWO), ONE, TWO)), A), True)
        self.goes(call(SAME_THING, inner), call(SAME_THING, ONE), True)
        self.goes(call(call(fn("a", SAME_THING), ONE), ADDED), call(SAME_THING, ADDED), True)

    def test_a_name_given_anew_within(self):
        self.goes(call(fn("a", fn("a", A)), ONE), fn("a", A), True)
        self.goes(call(fn("a", rec("a", "b", A)), ONE), rec("a", "b", A), True)
        self.goes(call(fn("a", rec("b", "a", A)), ONE), rec("b", "a", A), True)
        self.goes(call(fn("a", fn("b", duo(A, B))), ONE), fn("b", duo(ONE, B)), True)
        self.goes(let("a", ONE, let("a", duo(A, TWO), A)), let("a", duo(ONE, TWO), A))
        self.goes(let("a", ONE, let("b", A, A)), let("b", ONE, ONE))
        self.goes(let("a", ONE, opened(duo(A, A), "a", "b", A)), opened(duo(ONE, ONE), "a", "b", A))
        self.goes(let("a", ONE, opened(duo(A, A), "b", "a", A)), opened(duo(ONE, ONE), "b", "a", A))
        self.goes(let("a", ONE, opened(duo(A, A), "b", "c", A)), opened(duo(ONE, ONE), "b", "c", ONE))
        self.goes(let("a", ONE, split(row(A), A, "a", "b", A)), split(row(ONE), ONE, "a", "b", A))
        self.goes(let("a", ONE, split(row(A), A, "b", "a", A)), split(row(ONE), ONE, "b", "a", A))
        self.goes(let("a", ONE, split(row(A), A, "b", "c", A)), split(row(ONE), ONE, "b", "c", ONE))
        self.goes(opened(duo(ONE, TWO), "a", "b", fn("a", duo(A, B))), fn("a", duo(A, TWO)))
        self.goes(call(rec("f", "x", fn("f", call(F, X))), ONE), fn("f", call(F, ONE)), True)

    def test_two_names_that_are_alike(self):
        self.goes(call(rec("a", "a", A), ONE), ONE, True)
        self.goes(opened(duo(ONE, TWO), "a", "a", duo(A, A)), duo(TWO, TWO))
        self.goes(split(row(ONE, TWO), ONE, "a", "a", A), row(TWO))
        self.goes(let("a", ONE, opened(duo(A, A), "b", "b", duo(A, B))), opened(duo(ONE, ONE), "b", "b", duo(ONE, B)))

    def test_names_within_values_put_in_stay_their_own(self):
        self.goes(call(fn("a", fn("x", duo(A, X))), SAME_THING), fn("x", duo(SAME_THING, X)), True)

    def test_what_is_handed_in_stays(self):
        tree = call(fn("a", duo(A, A)), duo(ONE, TWO))
        step(tree)
        self.assertEqual(tree, ("call", ("fun", "a", ("pair", A, A)), ("pair", ONE, TWO)))

    def test_every_small_expression(self):
        for size in (1, 2, 3, 4):
            for tree in all_small(size):
                self.assertIs(is_value(tree), slow_is_value(tree), tree)
                self.assertEqual(step_or_stuck(tree), slow_or_stuck(tree), tree)

    def test_many_expressions_step_by_step(self):
        for tree in all_small(5)[::23] + many_loose(800) + many_kinded(200):
            for _ in range(12):
                told = step_or_stuck(tree)
                self.assertEqual(told, slow_or_stuck(tree), tree)
                self.assertIs(is_value(tree), told is None)
                if told is None or told == "stuck":
                    break
                self.assertIs(type(told[1]), bool)
                tree = told[0]


class TestStuck(unittest.TestCase):
    def stuck(self, tree):
        with self.assertRaises(Stuck, msg=tree) as caught:
            step(tree)
        self.assertIs(type(caught.exception), Stuck)
        self.assertIsInstance(caught.exception, KindError)

    def test_each_way(self):
        for tree in STUCK_ONES:
            self.stuck(tree)

    def test_within_a_part(self):
        for tree in STUCK_ONES:
            for whole in (
                duo(tree, ADDED), duo(ONE, tree), link(tree, ADDED), link(ONE, tree), call(tree, ADDED),
                call(ONE, tree), plus(tree, ADDED), less(TRUE, tree), let("a", tree, A), when(tree, ONE, TWO),
                opened(tree, "a", "b", A), split(tree, ONE, "a", "b", A), duo(row(ONE, tree), ADDED),
            ):
                self.stuck(whole)

    def test_not_within_what_is_not_done_yet(self):
        for tree in STUCK_ONES:
            for whole in (
                duo(ADDED, tree), let("a", ONE, tree), when(TRUE, ONE, tree), when(FALSE, tree, ONE),
                call(fn("a", tree), ONE), split(EMPTY, ONE, "a", "b", tree), split(row(ONE), tree, "a", "b", A),
            ):
                self.assertIsNotNone(step(whole))
            self.assertIsNone(step(fn("a", tree)))
            self.assertIsNone(step(rec("f", "a", tree)))

    def test_the_second_part_of_a_call_or_op_comes_first(self):
        self.assertEqual(step(call(ONE, ADDED)), (call(ONE, THREE), False))
        self.stuck(call(ONE, THREE))
        self.assertEqual(step(plus(TRUE, ADDED)), (plus(TRUE, THREE), False))
        self.stuck(plus(TRUE, THREE))
        self.assertEqual(step(call(ONE, ENDLESS)), (call(ONE, ENDLESS), True))

    def test_lists_that_are_none(self):
        # A link is a list, whatever its rest is; the rest itself is looked at when its turn comes.
        tree = split(link(ONE, TWO), ONE, "a", "b", split(B, ONE, "a", "b", A))
        self.assertEqual(step(tree), (split(TWO, ONE, "a", "b", A), False))
        self.stuck(step(tree)[0])


class TestDeep(unittest.TestCase):
    def test_steps_far_within(self):
        tree = ADDED
        for _ in range(3000):
            tree = plus(ONE, tree)
        told = step(tree)
        self.assertIs(told[1], False)
        at = told[0]
        for _ in range(3000):
            at = at[3]
        self.assertEqual(at, THREE)

    def test_a_run_by_steps(self):
        tree = call(COUNTED, num(30))
        calls = 0
        while step(tree) is not None:
            tree, was_call = step(tree)
            calls += was_call
        self.assertEqual(tree, row(*[num(30 - k) for k in range(30)]))
        self.assertEqual(calls, 31)

    def test_values_far_within(self):
        whole = EMPTY
        for k in range(20000):
            whole = link(num(k), whole)
        self.assertIs(is_value(whole), True)
        self.assertIsNone(step(whole))
        self.assertIs(is_value(duo(whole, ADDED)), False)
        self.assertEqual(step(duo(ONE, split(whole, ONE, "a", "b", A))), (duo(ONE, num(19999)), False))
        function = fn("y", call(G, duo(Y, A)))
        for _ in range(3000):
            function = fn("y", function)
        told = step(let("g", SAME_THING, let("a", ONE, function)))[0]
        self.assertEqual(told[1:3], ("a", ONE))


if __name__ == "__main__":
    unittest.main()
