"""The nodes of a tree, read from its list: the parent and the weight of each node in turn."""

# What stands in the list as the parent of a node that is attached to the root.
ROOT = 0


def node_total(tree):
    """Give back how many nodes the tree has."""
    return len(tree) // 2


def parent_entry(node, tree):
    """Give back the node's parent as it stands in the list: ROOT, or the parent's index plus 1."""
    return tree[2 * node]


def node_weight(node, tree):
    """Give back the weight of the node."""
    return tree[2 * node + 1]
