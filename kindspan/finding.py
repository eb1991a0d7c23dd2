"""The kind of an expression: the widest that it can have."""

from kindspan.errors import NoJoin, NoKind, NoName
from kindspan.nodes import Nodes
from kindspan.trees import first_missing_name


class Finder:
    # Each expression that waits is to have the kind of a node, where names
    # have the kinds they are given: a node with a level, and what lies deeper
    # than that is anew at each place where the name stands. For the name of a
    # let it is what was made in its first expression alone; for any other
    # name it is nothing. The last one that waits comes first.

    def __init__(self):
        self.nodes = Nodes()
        self.number = self.nodes.new_node("number", [])
        self.truth = self.nodes.new_node("truth", [])
        self.waiting = []

    def ask(self, tree, given, node):
        self.waiting.append((tree, given, node, None))

    def ask_behind_first(self, tree, given, node, first):
        self.waiting.append((tree, given, node, first))

    def has_sort(self, node, word, inner):
        self.nodes.make_same(node, self.nodes.new_node(word, inner))

    def given_too(self, given, names):
        wider = dict(given)
        for name, node in names.items():
            wider[name] = (node, self.nodes.level)
        return wider

    def ask_all(self):
        while self.waiting:
            entry = self.waiting.pop()
            if entry[3] is None:
                RULES[entry[0][0]](self, entry[0], entry[1], entry[2])
            else:
                go_on_behind_first(self, entry[0], entry[1], entry[2], entry[3])


def find_name(finder, tree, given, node):
    entry = given[tree[1]]
    finder.nodes.make_same(node, finder.nodes.copied(entry[0], entry[1]))


def find_number(finder, tree, given, node):
    finder.nodes.make_same(node, finder.number)


def find_truth(finder, tree, given, node):
    finder.nodes.make_same(node, finder.truth)


def find_empty(finder, tree, given, node):
    finder.has_sort(node, "list", [finder.nodes.new_gap()])


def find_fun(finder, tree, given, node):
    taken = finder.nodes.new_gap()
    told = finder.nodes.new_gap()
    finder.has_sort(node, "fun", [taken, told])
    finder.ask(tree[2], finder.given_too(given, {tree[1]: taken}), told)


def find_rec(finder, tree, given, node):
    taken = finder.nodes.new_gap()
    told = finder.nodes.new_gap()
    finder.has_sort(node, "fun", [taken, told])
    # Where the two names are alike the dict keeps the second, as it should.
    finder.ask(tree[3], finder.given_too(given, {tree[1]: node, tree[2]: taken}), told)


def find_call(finder, tree, given, node):
    taken = finder.nodes.new_gap()
    finder.ask(tree[1], given, finder.nodes.new_node("fun", [taken, node]))
    finder.ask(tree[2], given, taken)


def find_let(finder, tree, given, node):
    finder.nodes.go_deeper()
    first = finder.nodes.new_gap()
    finder.ask_behind_first(tree, given, node, first)
    finder.ask(tree[2], given, first)


def go_on_behind_first(finder, tree, given, node, first):
    finder.nodes.come_back(first)
    finder.ask(tree[3], finder.given_too(given, {tree[1]: first}), node)


def find_when(finder, tree, given, node):
    finder.ask(tree[1], given, finder.truth)
    finder.ask(tree[2], given, node)
    finder.ask(tree[3], given, node)


def find_pair(finder, tree, given, node):
    one = finder.nodes.new_gap()
    other = finder.nodes.new_gap()
    finder.has_sort(node, "pair", [one, other])
    finder.ask(tree[1], given, one)
    finder.ask(tree[2], given, other)


def find_open(finder, tree, given, node):
    one = finder.nodes.new_gap()
    other = finder.nodes.new_gap()
    finder.ask(tree[1], given, finder.nodes.new_node("pair", [one, other]))
    finder.ask(tree[4], finder.given_too(given, {tree[2]: one, tree[3]: other}), node)


def find_link(finder, tree, given, node):
    one = finder.nodes.new_gap()
    finder.has_sort(node, "list", [one])
    finder.ask(tree[1], given, one)
    finder.ask(tree[2], given, node)


def find_split(finder, tree, given, node):
    one = finder.nodes.new_gap()
    whole = finder.nodes.new_node("list", [one])
    finder.ask(tree[1], given, whole)
    finder.ask(tree[2], given, node)
    finder.ask(tree[5], finder.given_too(given, {tree[3]: one, tree[4]: whole}), node)


def find_op(finder, tree, given, node):
    finder.nodes.make_same(node, finder.number if tree[1] in ("plus", "minus") else finder.truth)
    finder.ask(tree[2], given, finder.number)
    finder.ask(tree[3], given, finder.number)


RULES = {
    "name": find_name,
    "number": find_number,
    "truth": find_truth,
    "empty": find_empty,
    "fun": find_fun,
    "rec": find_rec,
    "call": find_call,
    "let": find_let,
    "when": find_when,
    "pair": find_pair,
    "open": find_open,
    "link": find_link,
    "split": find_split,
    "op": find_op,
}


def widest(tree):
    # NoJoin where there is no kind.
    finder = Finder()
    nodes = finder.nodes
    top = nodes.new_gap()
    finder.ask(tree, {}, top)
    finder.ask_all()
    # All nodes are looked at, the top first: a gap can stand within its own
    # kind in a part of the expression that its kind tells nothing of.
    tops = [top] + list(range(len(nodes.leaders)))
    nodes.number_gaps(tops)
    return nodes.kinds_under(tops)[nodes.leader(top)]


def kind_of(tree):
    missing = first_missing_name(tree)
    if missing is not None:
        raise NoName(missing)
    try:
        return widest(tree)
    except NoJoin:
        raise NoKind("the expression can have no kind") from None
