"""The operations on trees; each gives back one list of whole numbers."""

from weaklink.limits import EMPTY_SET, NO_ERROR, NOT_IN_SET, OUTSIDE_LIMITS, cost_fits, set_error, tree_fits
from weaklink.masks import all_nodes, branch_mask, closed_sets, has_node, has_parent, set_count, set_weight
from weaklink.trees import ROOT, node_total, node_weight, parent_entry


def branch_gains(p, q, tree):
    """Give back for each node the greatest objective that a part of its branch can have, if the node is kept."""
    gains = [q * node_weight(node, tree) - p for node in range(node_total(tree))]
    # Children stand behind their parents, so from the back each gain is complete before the parent takes it.
    for node in range(node_total(tree) - 1, -1, -1):
        entry = parent_entry(node, tree)
        if entry != ROOT and gains[node] > 0:
            gains[entry - 1] += gains[node]
    return gains


def optimal_mask(p, q, tree):
    """Give back the optimal pruning for a cost of p / q as a mask."""
    gains = branch_gains(p, q, tree)
    mask = 0
    for node in range(node_total(tree)):
        # A gain of 0 leaves the objective as it is, and fewer nodes are asked for then. That settles every tie:
        # what two best sets have in common is a best set too, so only one of them has the fewest nodes.
        if gains[node] > 0 and has_parent(mask, node, tree):
            mask |= 1 << node
    return mask


def optimal_pruning(p, q, tree):
    """Give back the count, the mask and the weight of the optimal pruning for a cost of p / q, or an error code."""
    if not tree_fits(tree) or not cost_fits(p, q):
        return [OUTSIDE_LIMITS]
    mask = optimal_mask(p, q, tree)
    return [set_count(mask, tree), mask, set_weight(mask, tree)]


def objective(p, q, mask, tree):
    """Give back 0 and the objective of the set for a cost of p / q, or an error code."""
    # A tree outside its limits has this code too, so it can't be seen that the cost is asked first.
    if not cost_fits(p, q):
        return [OUTSIDE_LIMITS]
    error = set_error(mask, tree)
    if error != NO_ERROR:
        return [error]
    return [0, q * set_weight(mask, tree) - p * set_count(mask, tree)]


def branch(mask, node, tree):
    """Give back the count, the mask and the weight of the node's branch in the set, or an error code."""
    error = set_error(mask, tree)
    if error != NO_ERROR:
        return [error]
    if not has_node(mask, node):
        return [NOT_IN_SET]
    found = branch_mask(mask, node, tree)
    return [set_count(found, tree), found, set_weight(found, tree)]


def is_weaker(link, other):
    """Tell whether the mean weight of the first link's branch is below the other's."""
    # Multiplied crosswise, the two fractions are compared without a division, which would round.
    return link[1] * other[2] < other[1] * link[2]


def weakest_of(mask, tree):
    """Give back the weakest link of a set that isn't empty, then the weight and the count of its branch."""
    weakest = []
    for node in range(node_total(tree)):
        if has_node(mask, node):
            found = branch_mask(mask, node, tree)
            link = [node, set_weight(found, tree), set_count(found, tree)]
            # An equal mean changes nothing, so the lowest index stays.
            if weakest == [] or is_weaker(link, weakest):
                weakest = link
    return weakest


def weakest_link(mask, tree):
    """Give back the weakest link of the set, then the weight and the count of its branch, or an error code."""
    error = set_error(mask, tree)
    if error != NO_ERROR:
        return [error]
    if mask == 0:
        return [EMPTY_SET]
    return weakest_of(mask, tree)


def pruning_sequence(tree):
    """Give back the number of cuts, then for each its weakest link and the set that remains, or an error code."""
    if not tree_fits(tree):
        return [OUTSIDE_LIMITS]
    cut_count = 0
    cuts = []
    remaining = all_nodes(tree)
    while remaining != 0:
        link = weakest_of(remaining, tree)
        # A whole branch goes, so no node is left without its parent: what remains is closed again.
        remaining ^= branch_mask(remaining, link[0], tree)
        cuts += link + [remaining]
        cut_count += 1
    return [cut_count] + cuts


def best_with_limit(limit, tree):
    """Give back the greatest weight of a closed set with at most limit nodes, and its mask, or an error code."""
    if not tree_fits(tree):
        return [OUTSIDE_LIMITS]
    # The empty set is within every limit.
    best = [0, 0]
    for mask in closed_sets(tree):
        weight = set_weight(mask, tree)
        # The masks ascend, so an equal weight changes nothing: the smallest mask stays.
        if weight > best[0] and set_count(mask, tree) <= limit:
            best = [weight, mask]
    return best


def count_closed_sets(tree):
    """Give back how many closed sets there are, the empty one included, or an error code."""
    if not tree_fits(tree):
        return [OUTSIDE_LIMITS]
    return [len(closed_sets(tree))]
