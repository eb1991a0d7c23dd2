"""Expressions: their parts, and the names that are given in each part."""

from kindspan.walks import built

# For each sort of expression, where its parts stand in the tuple, from the
# left, each with the places of the names that are given in it.
PLACES = {
    "name": (),
    "number": (),
    "truth": (),
    "empty": (),
    "fun": ((2, (1,)),),
    "rec": ((3, (1, 2)),),
    "call": ((1, ()), (2, ())),
    "let": ((2, ()), (3, (1,))),
    "when": ((1, ()), (2, ()), (3, ())),
    "pair": ((1, ()), (2, ())),
    "open": ((1, ()), (4, (2, 3))),
    "link": ((1, ()), (2, ())),
    "split": ((1, ()), (2, ()), (5, (3, 4))),
    "op": ((2, ()), (3, ())),
}

# Where the parts stand that must be values before an expression of the sort
# does a step itself, from the left.
FIRST_PLACES = {
    "call": (1, 2),
    "let": (2,),
    "when": (1,),
    "pair": (1, 2),
    "open": (1,),
    "link": (1, 2),
    "split": (1,),
    "op": (2, 3),
}


def first_places(tree):
    return FIRST_PLACES.get(tree[0], ())


def names_at(tree, places):
    return tuple([tree[place] for place in places])


def parts_with_names(tree):
    return [(tree[place], names_at(tree, names)) for place, names in PLACES[tree[0]]]


def with_part(tree, place, part):
    return tree[:place] + (part,) + tree[place + 1:]


def with_parts(tree, parts):
    whole = list(tree)
    for entry, part in zip(PLACES[tree[0]], parts):
        whole[entry[0]] = part
    return tuple(whole)


def with_names(given, names):
    # A copy, since the parts beside this one are not given these names.
    wider = dict(given)
    for name in names:
        wider[name] = True
    return wider


def missing_names(tree):
    # The names that nothing gives, from the left, as often as they stand.
    missing = []
    waiting = [(tree, {})]
    while waiting:
        entry = waiting.pop()
        part = entry[0]
        given = entry[1]
        if part[0] == "name" and part[1] not in given:
            missing.append(part[1])
        for inner, names in reversed(parts_with_names(part)):
            waiting.append((inner, with_names(given, names) if names else given))
    return missing


def first_missing_name(tree):
    # None where every name is given.
    missing = missing_names(tree)
    return missing[0] if missing else None


def without_names(told, names):
    # The names given anew within stand for something else there.
    if not any([name in told for name in names]):
        return told
    fewer = dict(told)
    for name in names:
        fewer.pop(name, None)
    return fewer


def put_in(tree, told):
    # Values have no name in them that nothing gives: so none of those put in
    # can be caught by a name that is given round its new place.
    def parts_of(entry):
        if not entry[1]:
            return []
        return [(part, without_names(entry[1], names)) for part, names in parts_with_names(entry[0])]

    def make(entry, parts):
        if entry[0][0] == "name":
            return entry[1].get(entry[0][1], entry[0])
        return with_parts(entry[0], parts) if parts else entry[0]

    return built((tree, told), parts_of, make)
