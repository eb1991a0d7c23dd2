"""[0.1], [0.2] and [0.3]: what is promised over the whole program."""

import unittest

from expressions import (
    A, B, COUNTED, EMPTY, F, LOOP, MAPPED, N, SAME_THING, SUM_DOWN, TRUE, X, all_small, call, depth, duo, fn, less, let,
    link, many_kinded, many_loose, minus, name, num, opened, plus, rec, row, split, tuples, when,
)
from helpers import NUMBER, TRUTH, fun, gap, listed, pair
from kindspan.compiling import compiled
from kindspan.errors import NoKind, NoName
from kindspan.finding import kind_of
from kindspan.kinds import is_wider
from kindspan.machine import done
from kindspan.steps import is_value, run, shown, step

ONE = num(1)
GREAT = 10 ** 60 - 1


def letters(k):
    return "v" + chr(97 + k // 26) + chr(97 + k % 26)


def even(leaves, make):
    """One expression of all leaves, as shallow as can be."""
    while len(leaves) > 1:
        pairs = [make(leaves[k], leaves[k + 1]) for k in range(0, len(leaves) - 1, 2)]
        leaves = pairs + leaves[len(pairs) * 2:]
    return leaves[0]


def with_a_kind(trees):
    found = []
    for tree in trees:
        try:
            found.append((tree, kind_of(tree)))
        except NoKind:
            pass
    return found


class TestNeverStuck(unittest.TestCase):
    def check(self, tree, kind, most_steps):
        for _ in range(most_steps):
            told = step(tree)
            if told is None:
                self.assertIs(is_value(tree), True)
                return
            tree = told[0]
            now = kind_of(tree)
            self.assertTrue(is_wider(now, kind), (tree, now, kind))
            kind = now

    def test_small_ones(self):
        for tree, kind in with_a_kind(all_small(4) + all_small(5)[::9]):
            self.check(tree, kind, 10)

    def test_larger_ones(self):
        found = with_a_kind(many_loose(2500) + many_kinded(400))
        self.assertGreater(len(found), 700)
        for tree, kind in found:
            self.check(tree, kind, 15)

    def test_ones_that_do_much(self):
        for tree in (
            call(SUM_DOWN, num(12)),
            call(COUNTED, num(8)),
            call(MAPPED, fn("x", row(X)), call(COUNTED, num(5))),
            let("f", SAME_THING, duo(call(F, ONE), call(F, TRUE))),
            call(fn("a", duo(A, A)), EMPTY),
        ):
            self.check(tree, kind_of(tree), 400)

    def test_a_step_can_make_the_kind_wider(self):
        tree = call(fn("a", duo(A, A)), EMPTY)
        self.assertEqual(kind_of(tree), pair(listed(gap(0)), listed(gap(0))))
        self.assertEqual(kind_of(step(tree)[0]), pair(listed(gap(0)), listed(gap(1))))

    def test_its_code_tells_what_it_tells(self):
        for tree, kind in with_a_kind(many_loose(1500) + many_kinded(300)):
            for most in (0, 2, 20):
                told = run(tree, most)
                expected = None if told is None else (shown(told[0]), told[1])
                self.assertEqual(done(compiled(tree), most), expected, tree)


class TestSizes(unittest.TestCase):
    """Expressions at the edges, and somewhat beyond."""

    def check(self, tree, kind, value, calls, size, deep=None):
        self.assertGreaterEqual(tuples(tree), size)
        if deep is not None:
            self.assertEqual(depth(tree), deep)
        if kind is not None:
            self.assertEqual(kind_of(tree), kind)
        self.assertEqual(run(tree, calls), (value, calls))
        code = compiled(tree)
        self.assertLessEqual(len(code), 4 * tuples(tree) + 1)
        self.assertEqual(done(code, calls), (shown(value), calls))
        if calls:
            self.assertIsNone(run(tree, calls - 1))
            self.assertIsNone(done(code, calls - 1))
        step(tree)

    def test_a_great_sum(self):
        leaves = [num(GREAT - k) for k in range(10000)]
        self.check(even(leaves, plus), NUMBER, num(sum(leaf[1] for leaf in leaves)), 0, 19999)

    def test_many_calls_of_what_let_gives(self):
        sums = even([call(name("i"), num(k)) for k in range(4990)], plus)
        self.check(let("i", SAME_THING, sums), NUMBER, num(sum(range(4990))), 4990, 19900)

    def test_a_broad_value(self):
        leaves = [row(num(k), num(-k)) for k in range(3300)]
        tree = even(leaves, duo)
        kind = even([listed(NUMBER)] * 3300, pair)
        self.check(tree, kind, tree, 0, 19799)

    def test_many_gaps(self):
        leaves = [EMPTY] * 5000
        kind = even([listed(gap(k)) for k in range(5000)], pair)
        self.assertEqual(kind_of(even(leaves, duo)), kind)
        self.assertEqual(kind_of(even(leaves, lambda one, other: when(TRUE, one, other))), listed(gap(0)))

    def test_100_within_one_another(self):
        tree = ONE
        for _ in range(99):
            tree = plus(ONE, tree)
        self.check(tree, NUMBER, num(100), 0, 199, 100)
        tree = ONE
        for _ in range(99):
            tree = plus(tree, ONE)
        self.check(tree, NUMBER, num(100), 0, 199, 100)
        tree = row(*[num(k) for k in range(99)])
        self.check(tree, listed(NUMBER), tree, 0, 199, 100)

    def test_100_functions_within_one_another(self):
        tree = even([name(letters(k)) for k in range(64)], duo)
        kind = even([gap(k) for k in range(64)], pair)
        for k in reversed(range(93)):
            tree = fn(letters(k), tree)
            kind = fun(gap(k) if k < 64 else gap(1000 + k), kind)
        self.assertEqual(depth(tree), 100)
        self.assertTrue(is_wider(kind_of(tree), kind))
        self.assertTrue(is_wider(kind, kind_of(tree)))
        self.assertEqual(run(tree, 0), (tree, 0))
        for k in range(40):
            tree = call(tree, num(k))
        self.assertEqual(run(tree, 40)[1], 40)
        self.assertEqual(done(compiled(tree), 40), (("fun",), 40))

    def test_100_lets_within_one_another(self):
        tree = even([name(letters(k)) for k in range(64)], plus)
        for k in reversed(range(93)):
            before = name(letters(k - 1)) if k else ONE
            first = even([before] * 64 + [num(GREAT)] * 40, plus) if k < 2 else plus(before, ONE)
            tree = let(letters(k), first, tree)
        last = 64 + 40 * GREAT
        second = 64 * last + 40 * GREAT
        total = last + sum(second + k for k in range(63))
        self.check(tree, NUMBER, num(total), 0, 700, 100)

    def test_lets_with_great_first_expressions(self):
        tree = ONE
        for k in reversed(range(90)):
            tree = let(letters(k), even([SAME_THING] * 72, duo), tree)
        self.check(tree, NUMBER, ONE, 0, 19400)

    def test_lets_in_first_expressions(self):
        tree = SAME_THING
        for _ in range(96):
            tree = let("f", tree, fn("x", call(F, X)))
        self.assertEqual(depth(tree), 99)
        self.assertEqual(kind_of(tree), fun(gap(0), gap(0)))
        self.check(call(tree, ONE), NUMBER, ONE, 97, 380, 100)

    def test_what_let_gives_on_and_on(self):
        tree = F
        for _ in range(95):
            tree = let("f", call(F, F), tree)
        self.check(let("f", SAME_THING, tree), fun(gap(0), gap(0)), SAME_THING, 95, 380)

    def test_kinds_that_are_too_long_to_write_out(self):
        tree = A
        for _ in range(90):
            tree = let("a", duo(A, A), tree)
        kind = kind_of(fn("b", let("a", B, tree)))[2]
        told = done(compiled(let("a", ONE, tree)), 0)[0]
        for _ in range(90):
            self.assertEqual((kind[0], told[0]), ("pair", "pair"))
            kind, told = kind[2], told[1]
        self.assertEqual((kind, told), (gap(0), ONE))
        tree = A
        for _ in range(45):
            tree = let("a", duo(duo(A, TRUE), duo(ONE, A)), tree)
        kind = kind_of(let("a", ONE, let("a", fn("x", plus(X, A)), opened(duo(A, ONE), "a", "b", tree))))
        for _ in range(45):
            kind = kind[2][2]
        self.assertEqual(kind, fun(NUMBER, NUMBER))
        opening = A
        for _ in range(45):
            opening = opened(opening, "a", "b", A)
        for _ in range(45):
            opening = let("a", duo(A, A), opening)
        self.check(let("a", ONE, opening), NUMBER, ONE, 0, 225)

    def test_a_great_function_called_often(self):
        many = even([plus(N, num(k)) for k in range(4000)], plus)
        loop = rec("f", "n", when(less(N, ONE), num(7), call(F, minus(N, ONE))))
        great = rec("f", "n", when(less(N, ONE), call(loop, num(5)), when(less(N, num(-1)), many, call(F, minus(N, ONE)))))
        self.check(call(great, num(3000)), NUMBER, num(7), 3007, 16000)

    def test_refusals_in_great_expressions(self):
        leaves = [plus(num(k), ONE) for k in range(4900)]
        with self.assertRaises(NoKind):
            kind_of(even(leaves + [TRUE], plus))
        with self.assertRaises(NoKind):
            kind_of(fn("a", even([call(A, ONE)] * 2400 + [plus(A, ONE)], duo)))
        with self.assertRaises(NoName) as caught:
            kind_of(even(leaves + [call(ONE, B), A], plus))
        self.assertEqual(caught.exception.name, "b")
        deep = A
        for k in range(98):
            deep = fn(letters(k), deep)
        with self.assertRaises(NoName):
            kind_of(deep)

    def test_somewhat_beyond(self):
        tree = ONE
        for k in range(600):
            tree = let("a", tree, plus(A, num(GREAT * 10))) if k % 2 else plus(tree, ONE)
        self.assertEqual(kind_of(tree), NUMBER)
        self.assertEqual(run(tree, 0), (num(301 + 300 * GREAT * 10), 0))
        self.assertEqual(done(compiled(tree), 0), run(tree, 0))
        self.check(even([ONE] * 14000, plus), NUMBER, num(14000), 0, 27999)
        tree = EMPTY
        for _ in range(500):
            tree = fn("x", split(tree, EMPTY, "a", "b", link(A, B)))
        with self.assertRaises(NoKind):
            kind_of(tree)

    def test_numbers_of_60_figures(self):
        for k in (GREAT, -GREAT, 10 ** 59):
            self.check(num(k), NUMBER, num(k), 0, 1)
            self.check(plus(num(k), num(k)), NUMBER, num(2 * k), 0, 3)
            self.check(minus(num(-k), num(k)), NUMBER, num(-2 * k), 0, 3)
            self.check(less(num(k), num(k + 1)), TRUTH, TRUE, 0, 3)
            self.check(call(SAME_THING, num(k)), NUMBER, num(k), 1, 4)


class TestNothingIsKept(unittest.TestCase):
    def test_one_after_another(self):
        trees = [call(SUM_DOWN, num(3)), call(LOOP, num(2)), call(COUNTED, num(2)), MAPPED, EMPTY, duo(EMPTY, EMPTY)]
        first = [(kind_of(tree), run(tree, 9), compiled(tree), done(compiled(tree), 9), step(tree)) for tree in trees]
        second = [(kind_of(tree), run(tree, 9), compiled(tree), done(compiled(tree), 9), step(tree)) for tree in trees]
        self.assertEqual(first, second)


if __name__ == "__main__":
    unittest.main()
