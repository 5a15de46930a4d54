"""Inputs and checks that the tests of several operations share."""

GREATEST = 4294967295

# The tree of the document's examples.
EXAMPLE = [0, 5, 1, 2, 0, 1]

# Ten nodes: in a chain (each parent the latest allowed), and all at the root.
CHAIN = [number for i in range(10) for number in (i, 99)]
STAR = [number for i in range(10) for number in (0, 99)]


def with_entry(tree, position, value):
    changed = list(tree)
    changed[position] = value
    return changed


def trees_outside_limits():
    trees = [
        [0] * 22,  # 11 nodes
        CHAIN + [0, 1],
        CHAIN + [10, 1],
        CHAIN + [0],  # 21 elements
        CHAIN + [0, 1, 0],  # 23 elements
        [0],
        [0, 1, 0],
        [0, 5, 1, 2, 0],
        [GREATEST],
        [GREATEST] * 22,
        [GREATEST] * 23,
    ]
    for node in range(10):
        for parent in (node + 1, node + 2, 11, 100, GREATEST):
            trees.append(with_entry(CHAIN, 2 * node, parent))
            trees.append(with_entry(STAR, 2 * node, parent))
        for weight in (100, 101, GREATEST):
            trees.append(with_entry(CHAIN, 2 * node + 1, weight))
            trees.append(with_entry(STAR, 2 * node + 1, weight))
    for length in range(1, 24, 2):
        trees.append([0] * length)
    return trees


COSTS_OUTSIDE_LIMITS = [
    (1000, 1),
    (1000, 99),
    (GREATEST, 1),
    (0, 0),
    (1, 0),
    (999, 0),
    (0, 100),
    (999, 100),
    (1, GREATEST),
    (1000, 0),
    (1000, 100),
    (GREATEST, GREATEST),
]


class WatchedList(list):
    """A list that refuses to be changed, also when the change would be taken back later."""

    def refuse(self, *args, **kwargs):
        raise AssertionError("what was handed in was changed")

    append = clear = extend = insert = pop = remove = reverse = sort = refuse
    __setitem__ = __delitem__ = __iadd__ = __imul__ = refuse


def is_number_list(result):
    """Tell whether the result is one plain list of whole numbers."""
    return type(result) is list and all(type(number) is int for number in result)
