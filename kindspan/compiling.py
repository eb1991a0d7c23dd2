"""Code made of expressions.

Whatever an expression's code does, it leaves what is held as it was and one
value more on the pile, the expression's.
"""

from kindspan.trees import parts_with_names
from kindspan.walks import built


class Scope:
    # An expression, at which place in the row of held ones the value of each
    # name is, and how many are held.

    def __init__(self, tree, places, held):
        self.tree = tree
        self.places = places
        self.held = held


def inner_scope(scope, part, names):
    if not names:
        return Scope(part, scope.places, scope.held)
    places = dict(scope.places)
    held = scope.held
    for name in names:
        # Where two names are alike both are held, and the second is found.
        places[name] = held
        held += 1
    return Scope(part, places, held)


def inner_scopes(scope):
    return [inner_scope(scope, part, names) for part, names in parts_with_names(scope.tree)]


def code_of_name(scope, codes):
    return [("name", scope.held - 1 - scope.places[scope.tree[1]])]


def code_of_itself(scope, codes):
    return [scope.tree]


def code_of_function(scope, codes):
    return [(scope.tree[0], len(codes[0]) + 1)] + codes[0] + [("back",)]


def code_of_two(scope, codes):
    return codes[0] + codes[1] + [(scope.tree[0],)]


def code_of_op(scope, codes):
    return codes[0] + codes[1] + [("op", scope.tree[1])]


def code_of_let(scope, codes):
    return codes[0] + [("let",)] + codes[1] + [("drop", 1)]


def code_of_open(scope, codes):
    return codes[0] + [("open",)] + codes[1] + [("drop", 2)]


def code_of_when(scope, codes):
    second = codes[1] + [("jump", len(codes[2]))]
    return codes[0] + [("when", len(second))] + second + codes[2]


def code_of_split(scope, codes):
    last = codes[2] + [("drop", 2)]
    second = codes[1] + [("jump", len(last))]
    return codes[0] + [("split", len(second))] + second + last


RULES = {
    "name": code_of_name,
    "number": code_of_itself,
    "truth": code_of_itself,
    "empty": code_of_itself,
    "fun": code_of_function,
    "rec": code_of_function,
    "call": code_of_two,
    "let": code_of_let,
    "when": code_of_when,
    "pair": code_of_two,
    "open": code_of_open,
    "link": code_of_two,
    "split": code_of_split,
    "op": code_of_op,
}


def code_of(scope, codes):
    return RULES[scope.tree[0]](scope, codes)


def compiled(tree):
    return built(Scope(tree, {}, 0), inner_scopes, code_of) + [("end",)]
