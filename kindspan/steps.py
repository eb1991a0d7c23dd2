"""Expressions run: step by step, or all at once."""

from kindspan.ownsteps import own_step
from kindspan.running import Runner, told_value
from kindspan.trees import first_places, put_in, with_part
from kindspan.walks import built

VALUES = ("number", "truth", "empty", "fun", "rec", "pair", "link")


def way_to_step(tree):
    # The expressions from the whole one down to the first, from the left, that
    # does a step itself, each with how many of its first parts were looked
    # into; nothing where the whole one is a value.
    way = [(tree, 0)]
    while way:
        entry = way.pop()
        at = entry[0]
        seen = entry[1]
        places = first_places(at)
        if seen < len(places):
            way.append((at, seen + 1))
            way.append((at[places[seen]], 0))
        elif at[0] not in VALUES:
            way.append(entry)
            return way
    return []


def is_value(tree):
    return not way_to_step(tree)


def step(tree):
    way = way_to_step(tree)
    if not way:
        return None
    at = way.pop()[0]
    went = own_step(at, [at[place] for place in first_places(at)])
    whole = put_in(went[0], went[1])
    for outer, seen in reversed(way):
        whole = with_part(outer, first_places(outer)[seen - 1], whole)
    return (whole, at[0] == "call")


def run(tree, most):
    runner = Runner(tree)
    while runner.waiting and runner.calls <= most:
        runner.go_on()
    if runner.calls > most:
        return None
    return (told_value(runner.pile.pop()), runner.calls)


def shown(value):
    def parts_of(part):
        return part[1:] if part[0] in ("pair", "link") else ()

    def make(part, made):
        if part[0] in ("fun", "rec"):
            return ("fun",)
        return (part[0],) + tuple(made) if made else part

    return built(value, parts_of, make)
