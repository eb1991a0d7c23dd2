"""What several tests need: short names for kinds, small kinds, and slow but plain looks at them."""

from itertools import product

NUMBER = ("number",)
TRUTH = ("truth",)


def gap(k):
    return ("any", k)


def fun(one, other):
    return ("fun", one, other)


def pair(one, other):
    return ("pair", one, other)


def listed(one):
    return ("list", one)


def parts(kind):
    return () if kind[0] == "any" else kind[1:]


def within(kind):
    """The kind and all kinds in it, as often as they stand there."""
    found = [kind]
    for part in parts(kind):
        found.extend(within(part))
    return found


def gaps(kind):
    return {part[1] for part in within(kind) if part[0] == "any"}


def depth(kind):
    return 1 + max([depth(part) for part in parts(kind)], default=0)


def put(kind, told):
    """Filled, written a second time and as plainly as can be."""
    if kind[0] == "any":
        return told[kind[1]] if kind[1] in told else kind
    return (kind[0],) + tuple(put(part, told) for part in kind[1:])


def fits(wide, kind):
    """Wider or as wide, by trying every dict that could do it."""
    numbers = sorted(gaps(wide))
    choices = set(within(kind))
    return any(put(wide, dict(zip(numbers, kinds))) == kind for kinds in product(choices, repeat=len(numbers)))


def one_more_round(kinds):
    more = [listed(one) for one in kinds]
    for one, other in product(kinds, repeat=2):
        more.append(pair(one, other))
    return kinds + [kind for kind in more if kind not in kinds]


LEAVES = [NUMBER, gap(0), gap(1)]
SMALL = one_more_round(LEAVES)


def chain(levels, end):
    """Lists within one another, `levels` tuples above the end."""
    for _ in range(levels):
        end = listed(end)
    return end


def comb(leaves):
    """Pairs to the right: 2 * len(leaves) - 1 tuples where the leaves have one each."""
    kind = leaves[-1]
    for leaf in reversed(leaves[:-1]):
        kind = pair(leaf, kind)
    return kind


def even(leaves):
    """Pairs as shallow as can be."""
    if len(leaves) == 1:
        return leaves[0]
    half = len(leaves) // 2
    return pair(even(leaves[:half]), even(leaves[half:]))
