"""Kinds: filled, plain, compared and joined.

Every walk keeps a list of what is still to be done and calls no function
within itself, since kinds that were filled or joined can lie far deeper
than those they were made of.
"""

from kindspan.errors import NoJoin


def is_gap(kind):
    return kind[0] == "any"


def parts_of(kind):
    return () if is_gap(kind) else kind[1:]


def all_within(kind):
    # From the left, each kind ahead of its parts: plain numbers need this order.
    found = []
    waiting = [kind]
    while waiting:
        part = waiting.pop()
        found.append(part)
        waiting.extend(list(reversed(parts_of(part))))
    return found


def built(kind, make):
    # Walked from the right, the parts of a kind lie on top of the pile when
    # the kind itself comes, its first part uppermost.
    pile = []
    for part in reversed(all_within(kind)):
        made = [pile.pop() for inner in parts_of(part)]
        pile.append(make(part, made))
    return pile.pop()


def filled(kind, told):
    def make(part, made):
        if is_gap(part):
            return told.get(part[1], part)
        return (part[0],) + tuple(made)

    return built(kind, make)


def plain(kind):
    told = {}
    for part in all_within(kind):
        if is_gap(part) and part[1] not in told:
            told[part[1]] = ("any", len(told))
    return filled(kind, told)


def is_wider(wide, kind):
    told = {}
    wides = [wide]
    kinds = [kind]
    while wides:
        part = wides.pop()
        place = kinds.pop()
        if is_gap(part):
            if told.setdefault(part[1], place) != place:
                return False
        elif part[0] != place[0]:
            return False
        else:
            wides.extend(parts_of(part))
            kinds.extend(parts_of(place))
    return True


class Nodes:
    # Kinds as numbered nodes that can be made the same. A joined kind can be
    # longer, written out, than any machine can hold; with one node for what
    # stands at many places it is looked at once, and told as one tuple.

    def __init__(self):
        self.sorts = []
        self.inner = []
        self.leaders = []
        self.gaps = {}

    def new_node(self, word, inner):
        node = len(self.leaders)
        self.sorts.append(word)
        self.inner.append(inner)
        self.leaders.append(node)
        return node

    def gap_node(self, number):
        if number not in self.gaps:
            self.gaps[number] = self.new_node("any", [])
        return self.gaps[number]

    def node_of(self, kind):
        def make(part, made):
            if is_gap(part):
                return self.gap_node(part[1])
            return self.new_node(part[0], made)

        return built(kind, make)

    def leader(self, node):
        while self.leaders[node] != node:
            # Halving the way keeps later look-ups short.
            self.leaders[node] = self.leaders[self.leaders[node]]
            node = self.leaders[node]
        return node

    def make_same(self, one, other):
        # NoJoin where two sorts differ; a node within itself is not seen
        # here but when the kinds are told.
        waiting = [(one, other)]
        while waiting:
            pair = waiting.pop()
            first = self.leader(pair[0])
            second = self.leader(pair[1])
            if first == second:
                continue
            if self.sorts[second] == "any":
                self.leaders[second] = first
            elif self.sorts[first] == "any":
                self.leaders[first] = second
            elif self.sorts[first] != self.sorts[second]:
                raise NoJoin("kinds of two different sorts")
            else:
                self.leaders[second] = first
                waiting.extend(list(zip(self.inner[first], self.inner[second])))

    def kinds_under(self, node):
        # A dict from leading nodes to their kinds; NoJoin where one of them
        # would stand within itself.
        made = {}
        for number, gap in self.gaps.items():
            made[gap] = ("any", number)
        begun = {}
        waiting = [self.leader(node)]
        while waiting:
            at = waiting[-1]
            inner = [self.leader(part) for part in self.inner[at]]
            missing = [part for part in inner if part not in made]
            if at in made:
                waiting.pop()
            elif not missing:
                made[at] = (self.sorts[at],) + tuple([made[part] for part in inner])
            elif at in begun:
                raise NoJoin("a gap would stand within its own kind")
            else:
                begun[at] = True
                waiting.extend(missing)
        return made


def joined(one, other):
    nodes = Nodes()
    top = nodes.node_of(one)
    nodes.make_same(top, nodes.node_of(other))
    # All that was made the same lies under the top, so that a gap within its
    # own kind is met there wherever it is.
    made = nodes.kinds_under(top)
    told = {}
    for number, gap in nodes.gaps.items():
        leader = nodes.leader(gap)
        if leader != gap:
            told[number] = made[leader]
    return told
