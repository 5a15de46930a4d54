"""A plain search over all sets of nodes, written from the document and sharing no code with the package."""

from fractions import Fraction
from itertools import product


def closed(mask, tree):
    nodes = [i for i in range(len(tree) // 2) if mask >> i & 1]
    return all(tree[2 * i] == 0 or tree[2 * i] - 1 in nodes for i in nodes)


def count_and_weight(mask, tree):
    nodes = [i for i in range(len(tree) // 2) if mask >> i & 1]
    return len(nodes), sum(tree[2 * i + 1] for i in nodes)


def closed_sets(tree):
    """Every closed set as (mask, count, weight)."""
    masks = range(1 << len(tree) // 2)
    return [(mask, *count_and_weight(mask, tree)) for mask in masks if closed(mask, tree)]


def best_of(p, q, sets):
    """The optimal pruning among the sets, as the operation is to answer it."""
    mask, count, weight = min(sets, key=lambda each: (p * each[1] - q * each[2], each[1], each[0]))
    return [count, mask, weight]


def stands_below(node, ancestor, tree):
    """Tell whether the way from the node up to the root passes the ancestor, or begins there."""
    while node != ancestor:
        if tree[2 * node] == 0:
            return False
        node = tree[2 * node] - 1
    return True


def branch_of(mask, node, tree):
    """The branch of a node in the set as [count, mask, weight]."""
    nodes = [i for i in range(len(tree) // 2) if mask >> i & 1]
    found = sum(1 << i for i in nodes if stands_below(i, node, tree))
    count, weight = count_and_weight(found, tree)
    return [count, found, weight]


def weakest_of(mask, tree):
    """The weakest link of a set that isn't empty, as the operation is to answer it."""
    links = []
    for node in range(len(tree) // 2):
        if mask >> node & 1:
            count, found, weight = branch_of(mask, node, tree)
            links.append((Fraction(weight, count), node, weight, count))
    return list(min(links)[1:])


def sequence_of(tree):
    """The cuts down to the empty set as (node, weight, count, mask of what remains), one after the other."""
    cuts = []
    mask = sum(1 << i for i in range(len(tree) // 2))
    while mask != 0:
        node, weight, count = weakest_of(mask, tree)
        mask -= branch_of(mask, node, tree)[1]
        cuts.append((node, weight, count, mask))
    return cuts


def best_within(limit, sets):
    """The greatest weight among the sets with at most limit nodes, and the smallest mask that has it."""
    mask, count, weight = min((each for each in sets if each[1] <= limit), key=lambda each: (-each[2], each[0]))
    return [weight, mask]


def all_trees(n, weights):
    """Every tree of n nodes with these weights."""
    for parents in product(*(range(i + 1) for i in range(n))):
        for chosen in product(weights, repeat=n):
            yield [number for node in zip(parents, chosen) for number in node]


class Numbers:
    """Numbers that look drawn by lot and are the same in each run."""

    def __init__(self, seed):
        self.state = seed

    def below(self, bound):
        self.state = (self.state * 6364136223846793005 + 1442695040888963407) % 2**64
        return (self.state >> 33) % bound

    def tree(self, n, most_weight):
        return [number for i in range(n) for number in (self.below(i + 1), self.below(most_weight + 1))]


def many_trees(seed):
    """Trees of 0 to 10 nodes; the small weights make many equal means."""
    numbers = Numbers(seed)
    return [numbers.tree(n, most_weight) for n in range(11) for most_weight in (0, 1, 2, 5, 20, 99) for i in range(4)]
