"""Kinds: filled, plain, compared and joined."""

from kindspan.nodes import Nodes
from kindspan.walks import all_within, built


def is_gap(kind):
    return kind[0] == "any"


def parts_of(kind):
    return () if is_gap(kind) else kind[1:]


def filled(kind, told):
    def make(part, made):
        if is_gap(part):
            return told.get(part[1], part)
        return (part[0],) + tuple(made)

    return built(kind, parts_of, make)


def plain(kind):
    told = {}
    for part, inner in all_within(kind, parts_of):
        if is_gap(part) and part[1] not in told:
            told[part[1]] = ("any", len(told))
    return filled(kind, told)


def is_wider(wide, kind):
    told = {}
    wides = [wide]
    kinds = [kind]
    while wides:
        part = wides.pop()
        place = kinds.pop()
        if is_gap(part):
            if told.setdefault(part[1], place) != place:
                return False
        elif part[0] != place[0]:
            return False
        else:
            wides.extend(parts_of(part))
            kinds.extend(parts_of(place))
    return True


def node_of(nodes, kind):
    def make(part, made):
        if is_gap(part):
            return nodes.numbered_gap(part[1])
        return nodes.new_node(part[0], made)

    return built(kind, parts_of, make)


def joined(one, other):
    nodes = Nodes()
    top = node_of(nodes, one)
    nodes.make_same(top, node_of(nodes, other))
    # All that was made the same lies under the top, so that a gap within its
    # own kind is met there wherever it is.
    made = nodes.kinds_under([top])
    told = {}
    for number, gap in nodes.gaps.items():
        leader = nodes.leader(gap)
        if leader != gap:
            told[number] = made[leader]
    return told
