"""Short names for expressions, and many expressions made by rules and by a counted-out choice."""

import random
from itertools import product

TRUE = ("truth", True)
FALSE = ("truth", False)
EMPTY = ("empty",)
OPS = ("plus", "minus", "less", "same")


def num(k):
    return ("number", k)


def name(n):
    return ("name", n)


def fn(n, e):
    return ("fun", n, e)


def rec(n, m, e):
    return ("rec", n, m, e)


def call(function, *values):
    for value in values:
        function = ("call", function, value)
    return function


def let(n, first, second):
    return ("let", n, first, second)


def when(first, second, third):
    return ("when", first, second, third)


def duo(one, other):
    return ("pair", one, other)


def opened(first, n, m, last):
    return ("open", first, n, m, last)


def link(one, rest):
    return ("link", one, rest)


def split(first, second, n, m, last):
    return ("split", first, second, n, m, last)


def plus(one, other):
    return ("op", "plus", one, other)


def minus(one, other):
    return ("op", "minus", one, other)


def less(one, other):
    return ("op", "less", one, other)


def same(one, other):
    return ("op", "same", one, other)


def row(*things):
    """A list of these things."""
    whole = EMPTY
    for thing in reversed(things):
        whole = link(thing, whole)
    return whole


A = name("a")
B = name("b")
C = name("c")
F = name("f")
G = name("g")
N = name("n")
X = name("x")
Y = name("y")
SAME_THING = fn("x", X)
ENDLESS = call(rec("f", "x", call(F, X)), num(0))

# Sums all numbers from n down to 1: n + 1 calls.
SUM_DOWN = rec("f", "n", when(less(N, num(1)), num(0), plus(N, call(F, minus(N, num(1))))))
# A list of n things: n + 1 calls.
COUNTED = rec("f", "n", when(less(N, num(1)), EMPTY, link(N, call(F, minus(N, num(1))))))
# A loop whose call is the last thing it does: n + 1 calls.
LOOP = rec("f", "n", when(less(N, num(1)), num(7), call(F, minus(N, num(1)))))
MAPPED = fn("g", rec("f", "x", split(X, EMPTY, "a", "b", link(call(G, A), call(F, B)))))

# Everything that can be Stuck, at once, and everything that can't.
STUCK_ONES = [
    call(num(1), num(2)),
    call(TRUE, num(2)),
    call(EMPTY, num(2)),
    call(duo(SAME_THING, num(1)), num(2)),
    call(row(SAME_THING), num(2)),
    plus(num(1), TRUE),
    plus(TRUE, num(1)),
    minus(SAME_THING, num(1)),
    less(num(1), EMPTY),
    less(FALSE, TRUE),
    same(TRUE, TRUE),
    same(EMPTY, EMPTY),
    same(num(1), duo(num(1), num(1))),
    same(LOOP, num(1)),
    when(num(1), num(2), num(3)),
    when(EMPTY, num(2), num(3)),
    when(SAME_THING, num(2), num(3)),
    opened(num(1), "a", "b", A),
    opened(row(num(1)), "a", "b", A),
    opened(TRUE, "a", "b", num(1)),
    opened(SAME_THING, "a", "b", num(1)),
    split(num(1), num(2), "a", "b", A),
    split(duo(num(1), EMPTY), num(2), "a", "b", A),
    split(FALSE, num(2), "a", "b", A),
    split(LOOP, num(2), "a", "b", A),
]


def parts(tree):
    return [part for part in tree if isinstance(part, tuple)]


def tuples(tree):
    """How many tuples there are in an expression."""
    count = 0
    waiting = [tree]
    while waiting:
        count += 1
        waiting.extend(parts(waiting.pop()))
    return count


def depth(tree):
    return 1 + max([depth(part) for part in parts(tree)], default=0)


def all_small(size, names=("a", "b"), given=()):
    """Every expression of so many tuples over two names, with few numbers and ops, all its names given."""
    if size == 1:
        return [name(n) for n in sorted(set(given))] + [num(1), TRUE, EMPTY]
    found = []
    both = tuple(given)
    for n in names:
        found += [fn(n, e) for e in all_small(size - 1, names, both + (n,))]
    for n, m in product(names, repeat=2):
        found += [rec(n, m, e) for e in all_small(size - 1, names, both + (n, m))]
    for one in range(1, size - 1):
        firsts = all_small(one, names, given)
        rest = size - 1 - one
        for first, other in product(firsts, all_small(rest, names, given)):
            found += [call(first, other), duo(first, other), link(first, other), plus(first, other), less(first, other)]
        for n in names:
            found += [let(n, first, e) for first, e in product(firsts, all_small(rest, names, both + (n,)))]
        for n, m in product(names, repeat=2):
            found += [opened(first, n, m, e) for first, e in product(firsts, all_small(rest, names, both + (n, m)))]
        for two in range(1, rest):
            for first, second in product(firsts, all_small(two, names, given)):
                found += [when(first, second, e) for e in all_small(rest - two, names, given)]
                for n, m in product(names, repeat=2):
                    found += [split(first, second, n, m, e) for e in all_small(rest - two, names, both + (n, m))]
    return found


class Maker:
    """Makes expressions by a counted-out choice, always the same ones for a seed."""

    NAMES = ("a", "b", "c", "f", "x")

    def __init__(self, seed):
        self.dice = random.Random(seed)

    def new_name(self):
        return self.dice.choice(self.NAMES)

    def loose(self, deep, given=()):
        """An expression all whose names are given, seldom one with a kind."""
        if deep <= 0 or self.dice.random() < 0.15:
            leaves = [num(self.dice.randint(-3, 3)), TRUE, FALSE, EMPTY, SAME_THING]
            leaves += [name(n) for n in given] * 3
            return self.dice.choice(leaves)
        n, m = self.new_name(), self.new_name()

        def inner(*names):
            return self.loose(deep - 1, given + names)

        return self.dice.choice([
            lambda: fn(n, inner(n)),
            lambda: rec(n, m, inner(n, m)),
            lambda: call(inner(), inner()),
            lambda: call(fn(n, inner(n)), inner()),
            lambda: call(rec(n, m, inner(n, m)), inner()),
            lambda: let(n, inner(), inner(n)),
            lambda: when(less(inner(), num(2)), inner(), inner()),
            lambda: duo(inner(), inner()),
            lambda: opened(duo(inner(), inner()), n, m, inner(n, m)),
            lambda: opened(inner(), n, m, inner(n, m)),
            lambda: link(inner(), inner()),
            lambda: split(link(inner(), inner()), inner(), n, m, inner(n, m)),
            lambda: split(inner(), inner(), n, m, inner(n, m)),
            lambda: ("op", self.dice.choice(OPS), inner(), inner()),
            lambda: ("op", self.dice.choice(OPS), num(3), inner()),
        ])()

    def a_kind(self, deep):
        if deep <= 0 or self.dice.random() < 0.4:
            return self.dice.choice([("number",), ("truth",)])
        word = self.dice.choice(["fun", "pair", "list"])
        return (word,) + tuple(self.a_kind(deep - 1) for _ in range(1 if word == "list" else 2))

    def ready(self, kind, given, deep):
        """A plain expression of the kind."""
        fitting = [n for n, one in given.items() if one == kind]
        if fitting and self.dice.random() < 0.7:
            return name(self.dice.choice(fitting))
        if kind[0] == "number":
            return num(self.dice.randint(-5, 9))
        if kind[0] == "truth":
            return self.dice.choice([TRUE, FALSE])
        if kind[0] == "list":
            return self.dice.choice([EMPTY, EMPTY, None]) or link(self.kinded(kind[1], given, deep - 1), EMPTY)
        if kind[0] == "pair":
            return duo(self.kinded(kind[1], given, deep - 1), self.kinded(kind[2], given, deep - 1))
        n, m = self.new_name(), self.new_name()
        if self.dice.random() < 0.5:
            return fn(n, self.kinded(kind[2], {**given, n: kind[1]}, deep - 1))
        return rec(n, m, self.kinded(kind[2], {**given, n: kind, m: kind[1]}, deep - 1))

    def kinded(self, kind, given, deep):
        """An expression that can have the kind, where the names have the kinds given."""
        if deep <= 0 or self.dice.random() < 0.2:
            return self.ready(kind, given, deep)
        n, m = self.new_name(), self.new_name()
        one, other = self.a_kind(1), self.a_kind(1)

        def inner(wanted, **more):
            return self.kinded(wanted, {**given, **more}, deep - 1)

        ways = [
            lambda: call(inner(("fun", one, kind)), inner(one)),
            lambda: call(fn(n, inner(kind, **{n: one})), inner(one)),
            lambda: let(n, inner(one), inner(kind, **{n: one})),
            lambda: let(n, SAME_THING, self.with_any(n, kind, given, deep)),
            lambda: when(inner(("truth",)), inner(kind), inner(kind)),
            lambda: opened(inner(("pair", one, other)), n, m, inner(kind, **{**{n: one}, **{m: other}})),
            lambda: split(inner(("list", one)), inner(kind), n, m, inner(kind, **{**{n: one}, **{m: ("list", one)}})),
            lambda: self.ready(kind, given, deep),
        ]
        if kind[0] == "list":
            ways.append(lambda: link(inner(kind[1]), inner(kind)))
        if kind[0] in ("number", "truth"):
            word = self.dice.choice(OPS[:2] if kind[0] == "number" else OPS[2:])
            ways += [lambda: ("op", word, inner(("number",)), inner(("number",)))] * 3
        return self.dice.choice(ways)()

    def with_any(self, n, kind, given, deep):
        """An expression in which the name stands for a function that tells what it is called with, at two kinds."""
        without = {one: told for one, told in given.items() if one != n}
        first = call(name(n), self.kinded(kind, without, deep - 1))
        return opened(duo(first, call(name(n), TRUE)), "x", "c", X)


def many_loose(count, deep=4):
    return [Maker(seed).loose(deep) for seed in range(count)]


def many_kinded(count, deep=4):
    found = []
    for seed in range(count):
        maker = Maker(seed)
        found.append(maker.kinded(maker.a_kind(2), {}, deep))
    return found
