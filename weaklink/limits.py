"""The limits of what is handed in, and the error codes."""

from weaklink.masks import all_nodes, is_closed
from weaklink.trees import node_total, node_weight, parent_entry

NO_ERROR = 0
NOT_IN_SET = -2
EMPTY_SET = -6
OUTSIDE_LIMITS = -22
NOT_CLOSED = -33

MOST_NODES = 10
MOST_WEIGHT = 99
MOST_P = 999
LEAST_Q = 1
MOST_Q = 99


def node_fits(node, tree):
    """Tell whether the parent and the weight of the node are within their limits."""
    # An earlier node has an index below this one's, so its entry, which is one more, is at most this index.
    parent_is_earlier = 0 <= parent_entry(node, tree) <= node
    return parent_is_earlier and 0 <= node_weight(node, tree) <= MOST_WEIGHT


def tree_fits(tree):
    """Tell whether the tree is within its limits."""
    if len(tree) % 2 != 0 or node_total(tree) > MOST_NODES:
        return False
    for node in range(node_total(tree)):
        if not node_fits(node, tree):
            return False
    return True


def cost_fits(p, q):
    """Tell whether both parts of the cost p / q are within their limits."""
    return 0 <= p <= MOST_P and LEAST_Q <= q <= MOST_Q


def mask_fits(mask, tree):
    """Tell whether the mask names nodes of the tree alone."""
    return 0 <= mask <= all_nodes(tree)


def set_error(mask, tree):
    """Give back the error code that the tree or the set asks for, or NO_ERROR."""
    # The limits of the tree come first: only within them can the mask be read against it.
    if not tree_fits(tree) or not mask_fits(mask, tree):
        return OUTSIDE_LIMITS
    if not is_closed(mask, tree):
        return NOT_CLOSED
    return NO_ERROR
