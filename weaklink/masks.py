"""Sets of nodes, each as a mask: bit i is set if node i is in the set."""

from weaklink.trees import ROOT, node_total, node_weight, parent_entry


def all_nodes(tree):
    """Give back the set of all nodes of the tree."""
    return (1 << node_total(tree)) - 1


def has_node(mask, node):
    """Tell whether the node is in the set."""
    return (mask >> node) & 1 == 1


def has_parent(mask, node, tree):
    """Tell whether the node is attached to the root or to a node of the set."""
    entry = parent_entry(node, tree)
    return entry == ROOT or has_node(mask, entry - 1)


def is_closed(mask, tree):
    """Tell whether the set contains the parent of each of its nodes."""
    for node in range(node_total(tree)):
        if has_node(mask, node) and not has_parent(mask, node, tree):
            return False
    return True


def set_count(mask, tree):
    """Give back how many nodes of the tree are in the set."""
    count = 0
    for node in range(node_total(tree)):
        if has_node(mask, node):
            count += 1
    return count


def set_weight(mask, tree):
    """Give back the sum of the weights of the nodes in the set."""
    weight = 0
    for node in range(node_total(tree)):
        if has_node(mask, node):
            weight += node_weight(node, tree)
    return weight


def branch_mask(mask, node, tree):
    """Give back the node and all its descendants in the set, which must be closed and hold the node."""
    found = 1 << node
    # Children stand behind their parents, so whether a parent belongs is settled before its children are asked.
    for later in range(node + 1, node_total(tree)):
        entry = parent_entry(later, tree)
        if has_node(mask, later) and entry != ROOT and has_node(found, entry - 1):
            found |= 1 << later
    return found


def closed_sets(tree):
    """Give back every closed set of nodes, the smallest mask first."""
    masks = [0]
    for node in range(node_total(tree)):
        # A set that has this node is greater than all those of earlier nodes alone, so the order holds.
        masks = masks + [mask | (1 << node) for mask in masks if has_parent(mask, node, tree)]
    return masks
