"""Walks through things that have things of their own sort within them.

They keep a list of what is still to be done and call no function within
itself, since kinds and expressions that the program makes can lie far deeper
than those that it was handed.
"""


def all_within(top, parts_of):
    # Each one with its parts, from the left and ahead of them: whoever numbers
    # what comes needs this order.
    found = []
    waiting = [top]
    while waiting:
        one = waiting.pop()
        parts = parts_of(one)
        found.append((one, parts))
        waiting.extend(list(reversed(parts)))
    return found


def built(top, parts_of, make):
    # Walked from the right, what was made of the parts of one lies on top of
    # the pile when that one itself comes, its first part uppermost.
    pile = []
    for one, parts in reversed(all_within(top, parts_of)):
        made = [pile.pop() for part in parts]
        pile.append(make(one, made))
    return pile.pop()
