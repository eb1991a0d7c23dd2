"""Kinds as numbered nodes that can be made the same.

A kind can be longer, written out, than any machine can hold; with one node
for what stands at many places it is looked at once, and told as one tuple.
"""

from kindspan.errors import NoJoin


class Nodes:
    # Of nodes that were made the same one leads. A node's level is that of the
    # deepest place it belongs to, and no part of a node has a greater level
    # than the node: so what lies deeper than some level is met from above.

    def __init__(self):
        self.sorts = []
        self.inner = []
        self.leaders = []
        self.levels = []
        self.level = 0
        self.gaps = {}

    def new_node(self, word, inner):
        node = len(self.leaders)
        self.sorts.append(word)
        self.inner.append(inner)
        self.leaders.append(node)
        self.levels.append(self.level)
        return node

    def new_gap(self):
        return self.new_node("any", [])

    def numbered_gap(self, number):
        if number not in self.gaps:
            self.gaps[number] = self.new_gap()
        return self.gaps[number]

    def leader(self, node):
        while self.leaders[node] != node:
            # Halving the way keeps later look-ups short.
            self.leaders[node] = self.leaders[self.leaders[node]]
            node = self.leaders[node]
        return node

    def inner_leaders(self, node):
        return [self.leader(part) for part in self.inner[node]]

    def sink(self, node, level):
        # Where a node is no deeper than the level, its parts aren't either;
        # so this ends even where a node stands within itself.
        waiting = [node]
        while waiting:
            at = self.leader(waiting.pop())
            if self.levels[at] > level:
                self.levels[at] = level
                waiting.extend(self.inner[at])

    def follow(self, node, leader):
        self.leaders[node] = leader
        self.sink(leader, self.levels[node])

    def make_same(self, one, other):
        # NoJoin where two sorts differ; a node within itself is not seen
        # here but when the kinds are told.
        waiting = [(one, other)]
        while waiting:
            pair = waiting.pop()
            first = self.leader(pair[0])
            second = self.leader(pair[1])
            if first == second:
                continue
            if self.sorts[second] == "any":
                self.follow(second, first)
            elif self.sorts[first] == "any":
                self.follow(first, second)
            elif self.sorts[first] != self.sorts[second]:
                raise NoJoin("kinds of two different sorts")
            else:
                self.follow(second, first)
                waiting.extend(list(zip(self.inner[first], self.inner[second])))

    def go_deeper(self):
        self.level += 1

    def come_back(self, top):
        # Only what has a gap of the deeper place within it stays deep: all
        # else need not be copied, and one node goes on standing for it.
        self.level -= 1
        seen = {}
        waiting = [(top, False)]
        while waiting:
            entry = waiting.pop()
            at = self.leader(entry[0])
            inner = self.inner_leaders(at)
            if entry[1]:
                self.levels[at] = max([self.levels[part] for part in inner], default=0)
            elif self.levels[at] > self.level and self.sorts[at] != "any" and at not in seen:
                seen[at] = True
                waiting.append((at, True))
                waiting.extend([(part, False) for part in inner])

    def copied(self, top, level):
        # What lies deeper than the level is made anew, all else stays shared.
        fresh = {}
        waiting = [top]
        while waiting:
            at = self.leader(waiting.pop())
            if self.levels[at] > level and at not in fresh:
                fresh[at] = self.new_node(self.sorts[at], [])
                waiting.extend(self.inner[at])
        for at, node in fresh.items():
            self.inner[node] = [fresh.get(part, part) for part in self.inner_leaders(at)]
        return fresh.get(self.leader(top), top)

    def number_gaps(self, tops):
        # As they come, from the left: what was met once has no new gap in it.
        met = {}
        waiting = list(reversed(tops))
        while waiting:
            at = self.leader(waiting.pop())
            if at not in met:
                met[at] = True
                waiting.extend(list(reversed(self.inner[at])))
                if self.sorts[at] == "any":
                    self.gaps[len(self.gaps)] = at

    def kinds_under(self, tops):
        # A dict from leading nodes to their kinds; NoJoin where one of them
        # would stand within itself.
        made = {}
        for number, gap in self.gaps.items():
            made[gap] = ("any", number)
        begun = {}
        waiting = [self.leader(node) for node in tops]
        while waiting:
            at = waiting[-1]
            inner = self.inner_leaders(at)
            missing = [part for part in inner if part not in made]
            if at in made:
                waiting.pop()
            elif not missing:
                made[at] = (self.sorts[at],) + tuple([made[part] for part in inner])
            elif at in begun:
                raise NoJoin("a gap would stand within its own kind")
            else:
                begun[at] = True
                waiting.extend(missing)
        return made
