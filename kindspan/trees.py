"""Expressions: their parts, and the names that are given in each part."""

# For each sort of expression, where its parts stand in the tuple, from the
# left, each with the places of the names that are given in it.
PLACES = {
    "name": (),
    "number": (),
    "truth": (),
    "empty": (),
    "fun": ((2, (1,)),),
    "rec": ((3, (1, 2)),),
    "call": ((1, ()), (2, ())),
    "let": ((2, ()), (3, (1,))),
    "when": ((1, ()), (2, ()), (3, ())),
    "pair": ((1, ()), (2, ())),
    "open": ((1, ()), (4, (2, 3))),
    "link": ((1, ()), (2, ())),
    "split": ((1, ()), (2, ()), (5, (3, 4))),
    "op": ((2, ()), (3, ())),
}


def names_at(tree, places):
    return tuple([tree[place] for place in places])


def parts_with_names(tree):
    return [(tree[place], names_at(tree, names)) for place, names in PLACES[tree[0]]]


def with_parts(tree, parts):
    whole = list(tree)
    for entry, part in zip(PLACES[tree[0]], parts):
        whole[entry[0]] = part
    return tuple(whole)


def with_names(given, names):
    # A copy, since the parts beside this one are not given these names.
    wider = dict(given)
    for name in names:
        wider[name] = True
    return wider


def first_missing_name(tree):
    # None where every name is given.
    waiting = [(tree, {})]
    while waiting:
        entry = waiting.pop()
        part = entry[0]
        given = entry[1]
        if part[0] == "name" and part[1] not in given:
            return part[1]
        for inner, names in reversed(parts_with_names(part)):
            waiting.append((inner, with_names(given, names)))
    return None
