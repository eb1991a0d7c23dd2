"""What DOC.md says, written a second time, slowly and straight along its words."""

from functools import lru_cache

from helpers import gaps, put

MOST_DEEP = 60


class Nothing(Exception):
    """There is no kind."""


class Kinds:
    """Kinds by filling one gap at a time; what a let gives is looked into anew at each place of its name."""

    def __init__(self):
        self.told = {}
        self.count = 0

    def gap(self):
        self.count += 1
        return ("any", self.count)

    def now(self, kind):
        while kind[0] == "any" and kind[1] in self.told:
            kind = self.told[kind[1]]
        if kind[0] == "any":
            return kind
        return (kind[0],) + tuple(self.now(part) for part in kind[1:])

    def same(self, one, other):
        one, other = self.now(one), self.now(other)
        if one == other:
            return
        if one[0] != "any":
            one, other = other, one
        if one[0] == "any":
            if one[1] in gaps(other):
                raise Nothing
            self.told[one[1]] = other
        elif one[0] != other[0]:
            raise Nothing
        else:
            for first, second in zip(one[1:], other[1:]):
                self.same(first, second)

    def find(self, tree, given):
        word = tree[0]
        if word in ("number", "truth"):
            return (word,)
        if word == "empty":
            return ("list", self.gap())
        if word == "name":
            entry = given[tree[1]]
            return self.find(entry[1], entry[2]) if entry[0] == "let" else entry[1]
        if word == "fun":
            a = self.gap()
            return ("fun", a, self.find(tree[2], {**given, tree[1]: ("one", a)}))
        if word == "rec":
            a, b = self.gap(), self.gap()
            inner = {**given, tree[1]: ("one", ("fun", a, b))}
            self.same(b, self.find(tree[3], {**inner, tree[2]: ("one", a)}))
            return ("fun", a, b)
        if word == "call":
            b = self.gap()
            first = self.find(tree[1], given)
            self.same(first, ("fun", self.find(tree[2], given), b))
            return b
        if word == "let":
            self.find(tree[2], given)
            return self.find(tree[3], {**given, tree[1]: ("let", tree[2], given)})
        if word == "pair":
            return ("pair", self.find(tree[1], given), self.find(tree[2], given))
        if word == "op":
            self.same(self.find(tree[2], given), ("number",))
            self.same(self.find(tree[3], given), ("number",))
            return ("number",) if tree[1] in ("plus", "minus") else ("truth",)
        return self.find_more(tree, given)

    def find_more(self, tree, given):
        word = tree[0]
        first = self.find(tree[1], given)
        if word == "when":
            self.same(first, ("truth",))
            second = self.find(tree[2], given)
            self.same(second, self.find(tree[3], given))
            return second
        if word == "link":
            self.same(("list", first), self.find(tree[2], given))
            return ("list", first)
        if word == "open":
            a, b = self.gap(), self.gap()
            self.same(first, ("pair", a, b))
            inner = {**given, tree[2]: ("one", a)}
            return self.find(tree[4], {**inner, tree[3]: ("one", b)})
        a = self.gap()
        self.same(first, ("list", a))
        second = self.find(tree[2], given)
        inner = {**given, tree[3]: ("one", a)}
        self.same(second, self.find(tree[5], {**inner, tree[4]: ("one", ("list", a))}))
        return second


def slow_kind(tree):
    """The kind, plain, or None."""
    kinds = Kinds()
    try:
        kind = kinds.now(kinds.find(tree, {}))
    except Nothing:
        return None
    numbers = {}

    def walk(part):
        if part[0] == "any":
            numbers.setdefault(part[1], ("any", len(numbers)))
        else:
            for inner in part[1:]:
                walk(inner)

    walk(kind)
    return put(kind, numbers)


NUMBER = ("number",)
TRUTH = ("truth",)
LIST = ("list", NUMBER)
FEW_KINDS = [
    NUMBER, TRUTH, LIST, ("list", TRUTH), ("list", LIST), ("pair", NUMBER, NUMBER), ("pair", NUMBER, TRUTH),
    ("pair", TRUTH, NUMBER), ("pair", LIST, NUMBER), ("fun", NUMBER, NUMBER), ("fun", NUMBER, TRUTH),
    ("fun", TRUTH, NUMBER), ("fun", TRUTH, TRUTH), ("fun", LIST, NUMBER), ("fun", NUMBER, LIST), ("fun", LIST, LIST),
    ("fun", NUMBER, ("fun", NUMBER, NUMBER)), ("fun", ("fun", NUMBER, NUMBER), NUMBER),
]


def some_kinds(tree, given=()):
    """[2.2] word by word, over a few kinds alone: all that are found here the expression can have."""
    return set(some_kinds_kept(tree, tuple(sorted(dict(given).items()))))


def told_too(given, *more):
    wider = dict(given)
    for n, entry in more:
        wider[n] = entry
    return tuple(sorted(wider.items(), key=lambda item: item[0]))


@lru_cache(maxsize=200000)
def some_kinds_kept(tree, given):
    word = tree[0]
    if word in ("number", "truth"):
        return frozenset([(word,)])
    if word == "empty":
        return frozenset(kind for kind in FEW_KINDS if kind[0] == "list")
    if word == "name":
        entry = dict(given)[tree[1]]
        return some_kinds_kept(entry[1], entry[2]) if entry[0] == "let" else frozenset([entry[1]])
    if word in ("fun", "rec"):
        found = []
        for kind in FEW_KINDS:
            if kind[0] == "fun":
                itself = [(tree[1], ("one", kind))] if word == "rec" else []
                inner = told_too(given, *itself, (tree[-2], ("one", kind[1])))
                if kind[2] in some_kinds_kept(tree[-1], inner):
                    found.append(kind)
        return frozenset(found)
    if word == "call":
        taken = some_kinds_kept(tree[2], given)
        return frozenset(kind[2] for kind in some_kinds_kept(tree[1], given) if kind[0] == "fun" and kind[1] in taken)
    if word == "let":
        if not some_kinds_kept(tree[2], given):
            return frozenset()
        return some_kinds_kept(tree[3], told_too(given, (tree[1], ("let", tree[2], given))))
    if word == "op":
        both = some_kinds_kept(tree[2], given) & some_kinds_kept(tree[3], given)
        return frozenset([NUMBER if tree[1] in ("plus", "minus") else TRUTH] if NUMBER in both else [])
    return frozenset(more_kinds(tree, given))


def more_kinds(tree, given):
    word = tree[0]
    firsts = some_kinds_kept(tree[1], given)
    if word == "open":
        found = set()
        for kind in firsts:
            if kind[0] == "pair":
                found |= some_kinds_kept(tree[4], told_too(given, (tree[2], ("one", kind[1])), (tree[3], ("one", kind[2]))))
        return found
    seconds = some_kinds_kept(tree[2], given)
    if word == "when":
        return seconds & some_kinds_kept(tree[3], given) if TRUTH in firsts else set()
    if word == "pair":
        return {kind for kind in FEW_KINDS if kind[0] == "pair" and kind[1] in firsts and kind[2] in seconds}
    if word == "link":
        return {kind for kind in seconds if kind[0] == "list" and kind[1] in firsts}
    found = set()
    for kind in firsts:
        if kind[0] == "list":
            inner = told_too(given, (tree[3], ("one", kind[1])), (tree[4], ("one", kind)))
            found |= seconds & some_kinds_kept(tree[5], inner)
    return found


def slow_is_value(tree):
    if tree[0] in ("pair", "link"):
        return slow_is_value(tree[1]) and slow_is_value(tree[2])
    return tree[0] in ("number", "truth", "empty", "fun", "rec")


def give(tree, n, value):
    """The value in the place of the name everywhere it stands for it."""
    word = tree[0]
    if word == "name":
        return value if tree[1] == n else tree
    if word == "fun":
        return tree if tree[1] == n else ("fun", tree[1], give(tree[2], n, value))
    if word == "rec":
        return tree if n in tree[1:3] else ("rec", tree[1], tree[2], give(tree[3], n, value))
    if word == "let":
        return ("let", tree[1], give(tree[2], n, value), tree[3] if tree[1] == n else give(tree[3], n, value))
    if word == "open":
        last = tree[4] if n in tree[2:4] else give(tree[4], n, value)
        return ("open", give(tree[1], n, value), tree[2], tree[3], last)
    if word == "split":
        last = tree[5] if n in tree[3:5] else give(tree[5], n, value)
        return ("split", give(tree[1], n, value), give(tree[2], n, value), tree[3], tree[4], last)
    return tuple(give(part, n, value) if isinstance(part, tuple) else part for part in tree)


def give_two(tree, n, one, m, other):
    """The second one counts where they are alike."""
    return give(give(tree, m, other), n, one)


class SlowStuck(Exception):
    pass


FIRST = {"call": (1, 2), "op": (2, 3), "pair": (1, 2), "link": (1, 2), "let": (2,), "when": (1,), "open": (1,), "split": (1,)}


def slow_step(tree):
    if slow_is_value(tree):
        return None
    for place in FIRST[tree[0]]:
        if not slow_is_value(tree[place]):
            part, was_call = slow_step(tree[place])
            return tree[:place] + (part,) + tree[place + 1:], was_call
    return slow_own_step(tree), tree[0] == "call"


def slow_own_step(tree):
    word = tree[0]
    if word == "call":
        if tree[1][0] == "fun":
            return give(tree[1][2], tree[1][1], tree[2])
        if tree[1][0] == "rec":
            return give_two(tree[1][3], tree[1][1], tree[1], tree[1][2], tree[2])
    if word == "let":
        return give(tree[3], tree[1], tree[2])
    if word == "when" and tree[1][0] == "truth":
        return tree[2] if tree[1][1] else tree[3]
    if word == "open" and tree[1][0] == "pair":
        return give_two(tree[4], tree[2], tree[1][1], tree[3], tree[1][2])
    if word == "split" and tree[1][0] == "empty":
        return tree[2]
    if word == "split" and tree[1][0] == "link":
        return give_two(tree[5], tree[3], tree[1][1], tree[4], tree[1][2])
    if word == "op" and tree[2][0] == tree[3][0] == "number":
        one, other = tree[2][1], tree[3][1]
        return {
            "plus": ("number", one + other), "minus": ("number", one - other),
            "less": ("truth", one < other), "same": ("truth", one == other),
        }[tree[1]]
    raise SlowStuck


def slow_run(tree, most):
    """What a run tells, or None, or the text "stuck"."""
    calls = 0
    while True:
        try:
            went = slow_step(tree)
        except SlowStuck:
            return "stuck"
        if went is None:
            return tree, calls
        tree, was_call = went
        calls += was_call
        if calls > most:
            return None


def slow_shown(value):
    if value[0] in ("fun", "rec"):
        return ("fun",)
    return tuple(slow_shown(part) if isinstance(part, tuple) else part for part in value)
