import inspect
import unittest

from tests.cases import ALL, CHAIN, EXAMPLE, GREATEST, STAR
from tests.cases import WatchedList, is_number_list, masks_with_a_missing_node, sets_not_closed
from tests.cases import trees_outside_limits, with_entry
from tests.plain_search import Numbers, all_trees, branch_of, closed
from weaklink.pruning import branch

# Node 0 at the root with the children 1 and 2; 3 and 4 below 1; 5 below 3; 6 at the root with the child 7.
FOREST = [0, 1, 1, 2, 1, 4, 2, 8, 2, 16, 4, 32, 0, 64, 7, 99]

FAR_NODES = (10, 11, 23, 31, 32, 63, 64, 1000, 1 << 31, GREATEST - 1, GREATEST)


def expected_answer(mask, node, tree):
    """What branch is to answer while the tree is within its limits."""
    if mask >= 1 << len(tree) // 2:
        return [-22]
    if not closed(mask, tree):
        return [-33]
    if not mask >> node & 1:
        return [-2]
    return branch_of(mask, node, tree)


class Interface(unittest.TestCase):
    def test_arguments_by_name_and_place(self):
        self.assertEqual(list(inspect.signature(branch).parameters), ["mask", "node", "tree"])
        self.assertEqual(branch(mask=7, node=1, tree=list(EXAMPLE)), [1, 2, 2])
        self.assertEqual(branch(1, 0, list(EXAMPLE)), [1, 1, 5])

    def test_result_is_one_list_of_numbers(self):
        for mask, node in ((7, 0), (7, 2), (3, 2), (0, 0), (8, 0), (2, 1), (7, GREATEST)):
            result = branch(mask, node, list(EXAMPLE))
            self.assertTrue(is_number_list(result), result)


class OrdinaryInputs(unittest.TestCase):
    def test_example_tree(self):
        expected = [[2, 3, 7], [1, 2, 2], [1, 4, 1]]
        self.assertEqual([branch(7, node, list(EXAMPLE)) for node in range(3)], expected)

    def test_set_of_all_nodes(self):
        expected = [
            [6, 0b00111111, 63],
            [4, 0b00111010, 58],
            [1, 0b00000100, 4],
            [2, 0b00101000, 40],
            [1, 0b00010000, 16],
            [1, 0b00100000, 32],
            [2, 0b11000000, 163],
            [1, 0b10000000, 99],
        ]
        self.assertEqual([branch(255, node, list(FOREST)) for node in range(8)], expected)

    def test_set_of_some_nodes(self):
        mask = 0b01001011
        self.assertEqual(branch(mask, 0, list(FOREST)), [3, 0b00001011, 11])
        self.assertEqual(branch(mask, 1, list(FOREST)), [2, 0b00001010, 10])
        self.assertEqual(branch(mask, 3, list(FOREST)), [1, 0b00001000, 8])
        self.assertEqual(branch(mask, 6, list(FOREST)), [1, 0b01000000, 64])
        for node in (2, 4, 5, 7):
            self.assertEqual(branch(mask, node, list(FOREST)), [-2], node)

    def test_set_of_one_node(self):
        self.assertEqual(branch(1, 0, list(FOREST)), [1, 1, 1])
        self.assertEqual(branch(64, 6, list(FOREST)), [1, 64, 64])
        self.assertEqual(branch(1, 0, [0, 0]), [1, 1, 0])

    def test_later_branch_between_the_nodes_is_left_out(self):
        # The nodes of the two branches stand in turn: 0, 2, 4 and 1, 3, 5.
        tree = [0, 1, 0, 2, 1, 4, 2, 8, 3, 16, 4, 32]
        self.assertEqual(branch(63, 0, list(tree)), [3, 0b010101, 21])
        self.assertEqual(branch(63, 1, list(tree)), [3, 0b101010, 42])
        self.assertEqual(branch(63, 2, list(tree)), [2, 0b010100, 20])
        self.assertEqual(branch(31, 1, list(tree)), [2, 0b001010, 10])

    def test_every_set_and_node_of_every_small_tree(self):
        for n in range(4):
            for tree in all_trees(n, (0, 1, 99)):
                for mask in range((1 << n) + 2):
                    for node in range(n + 2):
                        expected = expected_answer(mask, node, tree)
                        self.assertEqual(branch(mask, node, list(tree)), expected, f"{mask} {node} {tree}")

    def test_every_set_and_node_of_larger_trees(self):
        numbers = Numbers(7)
        for n in range(4, 11):
            for i in range(2):
                tree = numbers.tree(n, 99)
                for mask in range(1 << n):
                    for node in range(n + 1):
                        expected = expected_answer(mask, node, tree)
                        self.assertEqual(branch(mask, node, list(tree)), expected, f"{mask} {node} {tree}")


class Edges(unittest.TestCase):
    def test_empty_tree_has_no_node(self):
        for node in (0, 1) + FAR_NODES:
            self.assertEqual(branch(0, node, []), [-2], node)

    def test_ten_nodes_and_the_greatest_mask(self):
        for node in range(10):
            rest = ALL - ((1 << node) - 1)
            self.assertEqual(branch(ALL, node, list(CHAIN)), [10 - node, rest, 99 * (10 - node)])
            self.assertEqual(branch(ALL, node, list(STAR)), [1, 1 << node, 99])

    def test_mask_0(self):
        for tree in (EXAMPLE, CHAIN, STAR):
            for node in range(11):
                self.assertEqual(branch(0, node, list(tree)), [-2], node)

    def test_parent_0_and_the_latest_allowed(self):
        for node in range(1, 10):
            apart = [1, 1 << node - 1, 99]
            self.assertEqual(branch(ALL, node - 1, with_entry(STAR, 2 * node, 0)), apart)
            together = [2, 3 << node - 1, 198]
            self.assertEqual(branch(ALL, node - 1, with_entry(STAR, 2 * node, node)), together)

    def test_weights_99_and_0_at_each_place(self):
        for node in range(10):
            tree = with_entry([0] * 20, 2 * node + 1, 99)
            self.assertEqual(branch(ALL, node, tree), [1, 1 << node, 99])
            tree = with_entry(CHAIN, 2 * node + 1, 0)
            self.assertEqual(branch(ALL, 0, tree), [10, ALL, 891])

    def test_node_that_is_not_in_the_set(self):
        self.assertEqual(branch(1, 1, list(EXAMPLE)), [-2])
        self.assertEqual(branch(3, 2, list(EXAMPLE)), [-2])
        self.assertEqual(branch(4, 0, list(EXAMPLE)), [-2])
        self.assertEqual(branch(ALL - 512, 9, list(CHAIN)), [-2])

    def test_node_that_is_not_in_the_tree(self):
        self.assertEqual(branch(7, 3, list(EXAMPLE)), [-2])
        self.assertEqual(branch(7, 6, list(EXAMPLE)), [-2])
        for node in FAR_NODES:
            for mask, tree in ((7, EXAMPLE), (0, EXAMPLE), (ALL, CHAIN), (ALL, STAR), (0, CHAIN)):
                self.assertEqual(branch(mask, node, list(tree)), [-2], f"mask={mask} node={node} tree={tree}")


class WrongInputs(unittest.TestCase):
    def test_tree_outside_limits(self):
        for tree in trees_outside_limits():
            for mask, node in ((0, 0), (1, 0), (2, 1), (ALL, 9), (1024, 10), (GREATEST, 0)):
                self.assertEqual(branch(mask, node, list(tree)), [-22], f"mask={mask} node={node} tree={tree}")

    def test_mask_names_a_node_that_is_not_there(self):
        for mask, tree in masks_with_a_missing_node():
            self.assertEqual(branch(mask, 0, list(tree)), [-22], f"mask={mask} tree={tree}")
            self.assertEqual(branch(mask, len(tree) // 2, list(tree)), [-22], f"mask={mask} tree={tree}")

    def test_set_is_not_closed(self):
        for mask, tree in sets_not_closed():
            for node in range(len(tree) // 2):
                if mask >> node & 1:
                    self.assertEqual(branch(mask, node, list(tree)), [-33], f"mask={mask} node={node} tree={tree}")

    def test_set_is_not_closed_elsewhere(self):
        # Node 1 lacks its parent, but the branch of node 2 does not meet it.
        self.assertEqual(branch(6, 2, list(EXAMPLE)), [-33])


class SeveralFaults(unittest.TestCase):
    def test_tree_goes_ahead_of_all_else(self):
        for tree in trees_outside_limits():
            for mask in (0, 2, ALL - 1, GREATEST):
                self.assertEqual(branch(mask, GREATEST, list(tree)), [-22], f"mask={mask} tree={tree}")

    def test_missing_node_goes_ahead_of_a_set_that_is_not_closed(self):
        for mask in (8 | 2, 8 | 6, GREATEST - 1):
            self.assertEqual(branch(mask, 1, list(EXAMPLE)), [-22], mask)
            self.assertEqual(branch(mask, 0, list(EXAMPLE)), [-22], mask)
        self.assertEqual(branch(1024 | 2, 1, list(CHAIN)), [-22])

    def test_mask_goes_ahead_of_the_node(self):
        for mask, tree in masks_with_a_missing_node():
            self.assertEqual(branch(mask, GREATEST, list(tree)), [-22], f"mask={mask} tree={tree}")
        for mask, tree in sets_not_closed():
            for node in [i for i in range(11) if not mask >> i & 1] + [GREATEST]:
                self.assertEqual(branch(mask, node, list(tree)), [-33], f"mask={mask} node={node} tree={tree}")


class NothingIsKept(unittest.TestCase):
    def test_list_is_unchanged(self):
        calls = [(7, 0, EXAMPLE), (7, 3, EXAMPLE), (2, 1, EXAMPLE), (8, 0, EXAMPLE), (ALL, 0, CHAIN), (255, 1, FOREST)]
        calls += [(1, 0, [0, 100]), (0, 0, [0]), (0, 0, []), (1, 0, CHAIN + [0])]
        for mask, node, tree in calls:
            handed_in = WatchedList(tree)
            branch(mask, node, handed_in)
            self.assertEqual(list(handed_in), tree)

    def test_second_call_answers_as_the_first(self):
        calls = [(7, 0, EXAMPLE), (3, 2, EXAMPLE), (2, 1, EXAMPLE), (8, 0, EXAMPLE), (ALL, 1, CHAIN), (0, 0, [])]
        expected = [[2, 3, 7], [-2], [-33], [-22], [9, 1022, 891], [-2]]
        for i in range(3):
            results = [branch(mask, node, list(tree)) for mask, node, tree in calls]
            self.assertEqual(results, expected)
            for result in results:
                result.append(7)

    def test_same_list_with_new_content(self):
        tree = list(EXAMPLE)
        self.assertEqual(branch(7, 0, tree), [2, 3, 7])
        tree[4] = 1
        self.assertEqual(branch(7, 0, tree), [3, 7, 8])


if __name__ == "__main__":
    unittest.main()
