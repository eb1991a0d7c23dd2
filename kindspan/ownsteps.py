"""What an expression goes on with by its own step, its first parts being values.

Each rule tells the pair of an expression and a dict of the names that are
given in it. Of a value a rule looks only at its word and at what stands behind
that, so that a run may keep more at a value's end. Where two names given at
once are alike the dict keeps the second, as it should.
"""

from kindspan.errors import Stuck
from kindspan.ops import reckoned


def own_call(tree, values):
    function = values[0]
    if function[0] == "fun":
        return (function[2], {function[1]: values[1]})
    if function[0] == "rec":
        return (function[3], {function[1]: function, function[2]: values[1]})
    raise Stuck("a call of no function")


def own_let(tree, values):
    return (tree[3], {tree[1]: values[0]})


def own_when(tree, values):
    if values[0][0] != "truth":
        raise Stuck("when of no truth")
    return (tree[2] if values[0][1] else tree[3], {})


def own_open(tree, values):
    pair = values[0]
    if pair[0] != "pair":
        raise Stuck("open of no pair")
    return (tree[4], {tree[2]: pair[1], tree[3]: pair[2]})


def own_split(tree, values):
    whole = values[0]
    if whole[0] == "empty":
        return (tree[2], {})
    if whole[0] == "link":
        return (tree[5], {tree[3]: whole[1], tree[4]: whole[2]})
    raise Stuck("split of no list")


def own_op(tree, values):
    return (reckoned(tree[1], values[0], values[1]), {})


RULES = {
    "call": own_call,
    "let": own_let,
    "when": own_when,
    "open": own_open,
    "split": own_split,
    "op": own_op,
}


def own_step(tree, values):
    return RULES[tree[0]](tree, values)
