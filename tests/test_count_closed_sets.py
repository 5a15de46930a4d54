import inspect
import unittest

from tests.cases import CHAIN, EXAMPLE, GREATEST, STAR
from tests.cases import is_number_list, trees_outside_limits, with_entry
from tests.plain_search import Numbers, all_trees, closed_sets, many_trees
from weaklink.pruning import count_closed_sets


class Interface(unittest.TestCase):
    def test_arguments_by_name_and_place(self):
        self.assertEqual(list(inspect.signature(count_closed_sets).parameters), ["tree"])
        self.assertEqual(count_closed_sets(tree=list(EXAMPLE)), [6])

    def test_result_is_one_list_of_numbers(self):
        for tree in (EXAMPLE, CHAIN, STAR, [], [0], [0, 100]):
            result = count_closed_sets(list(tree))
            self.assertTrue(is_number_list(result), result)
            self.assertEqual(len(result), 1)


class OrdinaryInputs(unittest.TestCase):
    def test_example_of_the_document(self):
        self.assertEqual(count_closed_sets([0, 5, 1, 2, 0, 1]), [6])

    def test_one_node(self):
        self.assertEqual(count_closed_sets([0, 7]), [2])

    def test_two_nodes(self):
        self.assertEqual(count_closed_sets([0, 7, 0, 7]), [4])
        self.assertEqual(count_closed_sets([0, 7, 1, 7]), [3])

    def test_node_with_children(self):
        # With the node each child may be there or not; without it there is the empty set alone.
        for children in range(10):
            self.assertEqual(count_closed_sets([0, 1] + [1, 1] * children), [(1 << children) + 1])

    def test_trees_beside_one_another_multiply(self):
        # Chains of two and of three nodes, 3 sets and 4 sets, with their nodes in turn.
        self.assertEqual(count_closed_sets([0, 1, 0, 1, 1, 1, 2, 1, 4, 1]), [12])
        # Five chains of two nodes.
        self.assertEqual(count_closed_sets([0, 1] * 5 + [1, 1, 2, 1, 3, 1, 4, 1, 5, 1]), [243])

    def test_binary_tree(self):
        self.assertEqual(count_closed_sets([0, 1, 1, 1, 1, 1]), [5])
        self.assertEqual(count_closed_sets([0, 1, 1, 1, 1, 1, 2, 1, 2, 1, 3, 1, 3, 1]), [26])

    def test_weights_do_not_count(self):
        numbers = Numbers(41)
        for tree in many_trees(42):
            others = [tree[i] if i % 2 == 0 else numbers.below(100) for i in range(len(tree))]
            self.assertEqual(count_closed_sets(list(tree)), count_closed_sets(others), tree)


class AgainstPlainCount(unittest.TestCase):
    def check(self, tree):
        self.assertEqual(count_closed_sets(list(tree)), [len(closed_sets(tree))], tree)

    def test_every_shape_of_up_to_six_nodes(self):
        for n in range(7):
            for tree in all_trees(n, [1]):
                self.check(tree)

    def test_larger_trees(self):
        numbers = Numbers(43)
        for n in range(7, 11):
            for i in range(8):
                self.check(numbers.tree(n, 99))


class Edges(unittest.TestCase):
    def test_empty_tree(self):
        self.assertEqual(count_closed_sets([]), [1])

    def test_chain_of_each_length(self):
        for n in range(11):
            self.assertEqual(count_closed_sets(CHAIN[:2 * n]), [n + 1])

    def test_each_number_of_nodes_at_the_root(self):
        for n in range(11):
            self.assertEqual(count_closed_sets(STAR[:2 * n]), [1 << n])

    def test_ten_nodes_and_more(self):
        self.assertEqual(count_closed_sets(list(CHAIN)), [11])
        self.assertEqual(count_closed_sets(CHAIN + [0, 99]), [-22])
        self.assertEqual(count_closed_sets(CHAIN + [10, 99]), [-22])
        self.assertEqual(count_closed_sets(list(STAR)), [1024])
        self.assertEqual(count_closed_sets(STAR + [0, 99]), [-22])

    def test_parent_0_and_the_latest_allowed(self):
        for node in range(1, 10):
            self.assertEqual(count_closed_sets(with_entry(STAR, 2 * node, 0)), [1024])
            # The two nodes have 3 closed sets in place of 4.
            self.assertEqual(count_closed_sets(with_entry(STAR, 2 * node, node)), [768])
            self.assertEqual(count_closed_sets(with_entry(STAR, 2 * node, node + 1)), [-22])
            # Beside the rest of the chain stand the nodes before.
            self.assertEqual(count_closed_sets(with_entry(CHAIN, 2 * node, 0)), [(node + 1) * (11 - node)])

    def test_weights_0_and_99_and_100_at_each_place(self):
        for node in range(10):
            for tree, count in ((CHAIN, 11), (STAR, 1024)):
                self.assertEqual(count_closed_sets(with_entry(tree, 2 * node + 1, 0)), [count])
                self.assertEqual(count_closed_sets(with_entry(tree, 2 * node + 1, 99)), [count])
                self.assertEqual(count_closed_sets(with_entry(tree, 2 * node + 1, 100)), [-22])


class WrongInputs(unittest.TestCase):
    def test_tree_outside_limits(self):
        for tree in trees_outside_limits():
            self.assertEqual(count_closed_sets(list(tree)), [-22], tree)

    def test_list_of_an_odd_length(self):
        for length in range(1, 24, 2):
            for tree in ([0] * 23, [GREATEST] * 23, CHAIN + [0, 1, 0], STAR + [0, 1, 0]):
                self.assertEqual(count_closed_sets(tree[:length]), [-22], tree[:length])


if __name__ == "__main__":
    unittest.main()
