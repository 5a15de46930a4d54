"""Inputs and checks that the tests of several operations share."""

GREATEST = 4294967295

# The tree of the document's examples.
EXAMPLE = [0, 5, 1, 2, 0, 1]

# Ten nodes: in a chain (each parent the latest allowed), and all at the root.
CHAIN = [number for i in range(10) for number in (i, 99)]
STAR = [number for i in range(10) for number in (0, 99)]
# The mask of all ten.
ALL = 1023


def with_entry(tree, position, value):
    changed = list(tree)
    changed[position] = value
    return changed


def trees_outside_limits():
    trees = [
        [0] * 22,  # 11 nodes
        CHAIN + [0, 1],
        CHAIN + [10, 1],
        CHAIN + [0],  # 21 elements
        CHAIN + [0, 1, 0],  # 23 elements
        [0],
        [0, 1, 0],
        [0, 5, 1, 2, 0],
        [GREATEST],
        [GREATEST] * 22,
        [GREATEST] * 23,
    ]
    for node in range(10):
        for parent in (node + 1, node + 2, 11, 100, GREATEST):
            trees.append(with_entry(CHAIN, 2 * node, parent))
            trees.append(with_entry(STAR, 2 * node, parent))
        for weight in (100, 101, GREATEST):
            trees.append(with_entry(CHAIN, 2 * node + 1, weight))
            trees.append(with_entry(STAR, 2 * node + 1, weight))
    for length in range(1, 24, 2):
        trees.append([0] * length)
    return trees


COSTS_OUTSIDE_LIMITS = [
    (1000, 1),
    (1000, 99),
    (GREATEST, 1),
    (0, 0),
    (1, 0),
    (999, 0),
    (0, 100),
    (999, 100),
    (1, GREATEST),
    (1000, 0),
    (1000, 100),
    (GREATEST, GREATEST),
]


def masks_with_a_missing_node():
    """Masks that name a node which isn't in the tree, each with its tree."""
    calls = [(mask, EXAMPLE) for mask in (8, 9, 10, 14, 15, 16, 1024, 1 << 31, GREATEST - 1, GREATEST)]
    calls += [(mask, STAR) for mask in (1024, 1025, 2047, 2048, GREATEST)]
    calls += [(mask, CHAIN) for mask in (1024, 1026, 2047, GREATEST)]
    calls += [(mask, []) for mask in (1, 2, GREATEST)]
    for n in range(11):
        calls.append((1 << n, CHAIN[:2 * n]))
    return calls


def sets_not_closed():
    """Masks that lack the parent of one of their nodes, each with its tree."""
    calls = [(2, EXAMPLE), (6, EXAMPLE)]
    # Of the three nodes of a chain: only the grandparent, only the parent, or neither is there.
    calls += [(mask, [0, 1, 1, 1, 2, 1]) for mask in (5, 6, 4)]
    calls += [(mask, CHAIN) for mask in range(1, ALL) if mask & (mask + 1) != 0]
    return calls


class WatchedList(list):
    """A list that refuses to be changed, also when the change would be taken back later."""

    def refuse(self, *args, **kwargs):
        raise AssertionError("what was handed in was changed")

    append = clear = extend = insert = pop = remove = reverse = sort = refuse
    __setitem__ = __delitem__ = __iadd__ = __imul__ = refuse


def cuts_of(result):
    """The cuts of a pruning sequence as (node, weight, count, mask of what remains)."""
    return [tuple(result[i:i + 4]) for i in range(1, len(result), 4)]


def is_number_list(result):
    """Tell whether the result is one plain list of whole numbers."""
    return type(result) is list and all(type(number) is int for number in result)
