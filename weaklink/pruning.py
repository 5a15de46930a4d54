"""The operations on trees; each gives back one list of whole numbers."""

from weaklink.limits import NOT_CLOSED, OUTSIDE_LIMITS, cost_fits, mask_fits, tree_fits
from weaklink.masks import has_parent, is_closed, set_count, set_weight
from weaklink.trees import ROOT, node_total, node_weight, parent_entry


def branch_gains(p, q, tree):
    """Give back for each node the greatest objective that a part of its branch can have, if the node is kept."""
    gains = [q * node_weight(node, tree) - p for node in range(node_total(tree))]
    # Children stand behind their parents, so from the back each gain is complete before the parent takes it.
    for node in range(node_total(tree) - 1, -1, -1):
        entry = parent_entry(node, tree)
        if entry != ROOT and gains[node] > 0:
            gains[entry - 1] += gains[node]
    return gains


def optimal_mask(p, q, tree):
    """Give back the optimal pruning for a cost of p / q as a mask."""
    gains = branch_gains(p, q, tree)
    mask = 0
    for node in range(node_total(tree)):
        # A gain of 0 leaves the objective as it is, and fewer nodes are asked for then. That settles every tie:
        # what two best sets have in common is a best set too, so only one of them has the fewest nodes.
        if gains[node] > 0 and has_parent(mask, node, tree):
            mask |= 1 << node
    return mask


def optimal_pruning(p, q, tree):
    """Give back the count, the mask and the weight of the optimal pruning for a cost of p / q, or an error code."""
    if not tree_fits(tree) or not cost_fits(p, q):
        return [OUTSIDE_LIMITS]
    mask = optimal_mask(p, q, tree)
    return [set_count(mask, tree), mask, set_weight(mask, tree)]


def objective(p, q, mask, tree):
    """Give back 0 and the objective of the set for a cost of p / q, or an error code."""
    # The limits of the tree come first: only within them can the mask be read against it.
    if not tree_fits(tree) or not cost_fits(p, q) or not mask_fits(mask, tree):
        return [OUTSIDE_LIMITS]
    if not is_closed(mask, tree):
        return [NOT_CLOSED]
    return [0, q * set_weight(mask, tree) - p * set_count(mask, tree)]
