"""Runs that put no value in a name's place while they go.

Putting values in place at each step would walk through the whole of a
function's expression at each call. Here each expression goes on beside a dict
of what its names stand for, and only of the value at the end all is put in
place.
"""

from kindspan.ownsteps import own_step
from kindspan.trees import first_places, missing_names, put_in


class Note:
    # Stands at the end of each function, pair and link of a run: what the
    # names of a function stand for, and, once it was told, the value as it is
    # told. A value that is met at many places is so told only once.

    def __init__(self, given):
        self.given = given
        self.told = None


def told_or_none(value):
    return value[-1].told if value[0] in ("fun", "rec", "pair", "link") else value


def names_in(value):
    # Of a function, what each name stands for that is not given within it.
    names = {}
    if value[0] in ("fun", "rec"):
        for name in missing_names(value[:-1]):
            names[name] = value[-1].given[name]
    return names


def told_of_parts(value, names):
    # All that stands within the value has been told.
    if value[0] in ("pair", "link"):
        return (value[0], told_or_none(value[1]), told_or_none(value[2]))
    trees = {}
    for name, inner in names.items():
        trees[name] = told_or_none(inner)
    return put_in(value[:-1], trees)


def told_value(value):
    waiting = [value]
    while waiting:
        at = waiting[-1]
        if told_or_none(at) is not None:
            waiting.pop()
            continue
        names = names_in(at)
        inner = [at[1], at[2]] if at[0] in ("pair", "link") else list(names.values())
        missing = [one for one in inner if told_or_none(one) is None]
        if missing:
            waiting.extend(missing)
        else:
            note = at[-1]
            note.told = told_of_parts(at, names)
    return told_or_none(value)


def given_too(given, names):
    if not names:
        return given
    wider = dict(given)
    wider.update(names)
    return wider


class Runner:
    # What waits is an expression, what its names stand for, and whether the
    # values of its first parts lie on the pile. The last one comes first.

    def __init__(self, tree):
        self.waiting = [(tree, {}, False)]
        self.pile = []
        self.calls = 0

    def go_on(self):
        entry = self.waiting.pop()
        tree = entry[0]
        given = entry[1]
        places = first_places(tree)
        if entry[2]:
            self.finish(tree, given)
        elif places:
            self.waiting.append((tree, given, True))
            self.waiting.extend([(tree[place], given, False) for place in reversed(places)])
        elif tree[0] == "name":
            self.pile.append(given[tree[1]])
        elif tree[0] in ("fun", "rec"):
            self.pile.append(tree + (Note(given),))
        else:
            self.pile.append(tree)

    def finish(self, tree, given):
        values = [self.pile.pop() for place in first_places(tree)]
        values.reverse()
        if tree[0] in ("pair", "link"):
            self.pile.append((tree[0], values[0], values[1], Note({})))
            return
        went = own_step(tree, values)
        if tree[0] == "call":
            self.calls += 1
            given = values[0][-1].given
        self.waiting.append((went[0], given_too(given, went[1]), False))
