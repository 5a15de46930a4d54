import inspect
import unittest

from tests.cases import ALL, CHAIN, EXAMPLE, GREATEST, STAR
from tests.cases import WatchedList, is_number_list, masks_with_a_missing_node, sets_not_closed
from tests.cases import trees_outside_limits, with_entry
from tests.plain_search import Numbers, all_trees, branch_of, closed, closed_sets, weakest_of
from weaklink.pruning import branch, weakest_link


def expected_answer(mask, tree):
    """What weakest_link is to answer while the tree is within its limits."""
    if mask >= 1 << len(tree) // 2:
        return [-22]
    if not closed(mask, tree):
        return [-33]
    if mask == 0:
        return [-6]
    return weakest_of(mask, tree)


class Interface(unittest.TestCase):
    def test_arguments_by_name_and_place(self):
        self.assertEqual(list(inspect.signature(weakest_link).parameters), ["mask", "tree"])
        self.assertEqual(weakest_link(mask=3, tree=list(EXAMPLE)), [1, 2, 1])

    def test_result_is_one_list_of_numbers(self):
        for mask in (7, 3, 1, 0, 2, 8):
            result = weakest_link(mask, list(EXAMPLE))
            self.assertTrue(is_number_list(result), result)


class OrdinaryInputs(unittest.TestCase):
    def test_examples_of_the_document(self):
        self.assertEqual(weakest_link(7, [0, 5, 1, 2, 0, 1]), [2, 1, 1])
        self.assertEqual(weakest_link(2, [0, 5, 1, 2, 0, 1]), [-33])

    def test_every_set_of_the_example_tree(self):
        expected = [[-6], [0, 5, 1], [-33], [1, 2, 1], [2, 1, 1], [2, 1, 1], [-33], [2, 1, 1]]
        self.assertEqual([weakest_link(mask, list(EXAMPLE)) for mask in range(8)], expected)

    def test_weakest_link_is_a_node_with_a_branch(self):
        # Node 1 has a mean of 6 / 3; the leaves below it weigh more, the root's other nodes too.
        tree = [0, 9, 1, 0, 2, 3, 2, 3, 0, 4]
        self.assertEqual(weakest_link(31, list(tree)), [1, 6, 3])

    def test_mean_decides_and_not_the_weight(self):
        self.assertEqual(weakest_link(15, [0, 4, 0, 2, 2, 3, 2, 3]), [1, 8, 3])
        self.assertEqual(weakest_link(15, [0, 0, 1, 3, 1, 3, 0, 3]), [0, 6, 3])

    def test_mean_decides_and_not_the_count(self):
        self.assertEqual(weakest_link(7, [0, 1, 0, 5, 2, 6]), [0, 1, 1])

    def test_means_that_are_equal_when_rounded(self):
        # 5 / 3 against 3 / 2, and 3 / 2 against 1, in either order.
        self.assertEqual(weakest_link(31, [0, 1, 1, 2, 1, 2, 0, 1, 4, 2]), [3, 3, 2])
        self.assertEqual(weakest_link(31, [0, 1, 1, 2, 0, 1, 3, 2, 3, 2]), [0, 3, 2])
        self.assertEqual(weakest_link(7, [0, 1, 1, 2, 0, 1]), [2, 1, 1])
        self.assertEqual(weakest_link(7, [0, 1, 0, 1, 2, 2]), [0, 1, 1])

    def test_nodes_outside_the_set_do_not_count(self):
        tree = [0, 9, 1, 0, 1, 5, 0, 6]
        self.assertEqual(weakest_link(15, list(tree)), [1, 0, 1])
        self.assertEqual(weakest_link(13, list(tree)), [2, 5, 1])
        self.assertEqual(weakest_link(9, list(tree)), [3, 6, 1])
        self.assertEqual(weakest_link(1, list(tree)), [0, 9, 1])

    def test_poor_parent_is_held_up_by_its_children(self):
        self.assertEqual(weakest_link(7, [0, 0, 1, 9, 0, 4]), [2, 4, 1])
        self.assertEqual(weakest_link(5, [0, 0, 1, 9, 0, 4]), [0, 0, 1])


class Ties(unittest.TestCase):
    def test_lowest_index_of_equal_leaves(self):
        self.assertEqual(weakest_link(7, [0, 3, 0, 3, 0, 3]), [0, 3, 1])
        self.assertEqual(weakest_link(6, [0, 3, 0, 3, 0, 3]), [1, 3, 1])
        self.assertEqual(weakest_link(4, [0, 3, 0, 3, 0, 3]), [2, 3, 1])
        self.assertEqual(weakest_link(7, [0, 4, 0, 3, 0, 3]), [1, 3, 1])

    def test_parent_and_child_of_equal_mean(self):
        self.assertEqual(weakest_link(3, [0, 3, 1, 3]), [0, 6, 2])
        self.assertEqual(weakest_link(7, [0, 9, 1, 3, 2, 3]), [1, 6, 2])

    def test_means_that_are_equal_as_fractions_only(self):
        # 1 / 2 at node 0 and 2 / 4 at node 2.
        self.assertEqual(weakest_link(63, [0, 0, 1, 1, 0, 0, 3, 0, 4, 1, 4, 1]), [0, 1, 2])
        # 2 / 4 at node 0 and 1 / 2 at node 4.
        self.assertEqual(weakest_link(63, [0, 0, 1, 0, 2, 1, 2, 1, 0, 0, 5, 1]), [0, 2, 4])
        # 4 / 3 at node 1 and 8 / 6 at node 2, then the other way round.
        self.assertEqual(weakest_link(ALL, [0, 9, 0, 0, 0, 0, 2, 2, 2, 2, 3, 0, 6, 2, 6, 2, 6, 2, 6, 2]), [1, 4, 3])
        self.assertEqual(weakest_link(ALL, [0, 9, 0, 0, 0, 0, 3, 2, 3, 2, 2, 0, 6, 2, 6, 2, 6, 2, 6, 2]), [1, 8, 6])

    def test_weights_0(self):
        self.assertEqual(weakest_link(1, [0, 0]), [0, 0, 1])
        self.assertEqual(weakest_link(7, [0, 0, 1, 0, 2, 0]), [0, 0, 3])
        self.assertEqual(weakest_link(7, [0, 0, 1, 1, 0, 0]), [2, 0, 1])
        self.assertEqual(weakest_link(15, [0, 1, 1, 0, 2, 0, 0, 0]), [1, 0, 2])


class AgainstPlainSearch(unittest.TestCase):
    def check(self, mask, tree):
        expected = expected_answer(mask, tree)
        result = weakest_link(mask, list(tree))
        if result != expected:
            self.assertEqual(result, expected, f"mask={mask} tree={tree}")

    def test_every_set_of_every_small_tree(self):
        for n in range(4):
            for tree in all_trees(n, range(5)):
                for mask in range((1 << n) + 2):
                    self.check(mask, tree)

    def test_every_tree_of_four_nodes(self):
        for tree in all_trees(4, range(3)):
            for mask in range(1 << 4):
                self.check(mask, tree)

    def test_every_closed_set_of_larger_trees(self):
        numbers = Numbers(8)
        for n in range(5, 11):
            for most_weight in (0, 1, 3, 99):
                for i in range(2):
                    tree = numbers.tree(n, most_weight)
                    for mask, count, weight in closed_sets(tree):
                        self.check(mask, tree)

    def test_branch_of_the_weakest_link(self):
        numbers = Numbers(9)
        for i in range(50):
            tree = numbers.tree(10, 9)
            node, weight, count = weakest_link(ALL, list(tree))
            self.assertEqual(branch(ALL, node, list(tree)), branch_of(ALL, node, tree))
            self.assertEqual(branch(ALL, node, list(tree))[0::2], [count, weight], tree)


class Edges(unittest.TestCase):
    def test_empty_tree(self):
        self.assertEqual(weakest_link(0, []), [-6])

    def test_empty_set(self):
        for tree in (EXAMPLE, CHAIN, STAR, [0, 0], [0] * 20):
            self.assertEqual(weakest_link(0, list(tree)), [-6], tree)

    def test_ten_nodes_and_the_greatest_mask(self):
        self.assertEqual(weakest_link(ALL, list(CHAIN)), [0, 990, 10])
        self.assertEqual(weakest_link(ALL, list(STAR)), [0, 99, 1])
        self.assertEqual(weakest_link(512, list(STAR)), [9, 99, 1])

    def test_greatest_mask_for_each_number_of_nodes(self):
        for n in range(1, 11):
            self.assertEqual(weakest_link((1 << n) - 1, CHAIN[:2 * n]), [0, 99 * n, n])
            self.assertEqual(weakest_link(1 << n, CHAIN[:2 * n]), [-22])

    def test_parent_0_and_the_latest_allowed(self):
        for node in range(1, 10):
            # The node before weighs least; with a child of weight 99 it still does, in a branch of two.
            least = with_entry(STAR, 2 * node - 1, 0)
            self.assertEqual(weakest_link(ALL, with_entry(least, 2 * node, 0)), [node - 1, 0, 1])
            self.assertEqual(weakest_link(ALL, with_entry(least, 2 * node, node)), [node - 1, 99, 2])

    def test_weights_98_and_0_at_each_place(self):
        for node in range(10):
            self.assertEqual(weakest_link(ALL, with_entry(STAR, 2 * node + 1, 98)), [node, 98, 1])
            self.assertEqual(weakest_link(ALL, with_entry(STAR, 2 * node + 1, 0)), [node, 0, 1])
            # The chain from the node on has the smallest mean: later nodes weigh more, earlier ones take it in.
            falling = with_entry(CHAIN, 2 * node + 1, 0)
            self.assertEqual(weakest_link(ALL, falling), [node, 99 * (9 - node), 10 - node])


class WrongInputs(unittest.TestCase):
    def test_tree_outside_limits(self):
        for tree in trees_outside_limits():
            for mask in (0, 1, 2, 512, ALL, 1024, GREATEST):
                self.assertEqual(weakest_link(mask, list(tree)), [-22], f"mask={mask} tree={tree}")

    def test_mask_names_a_node_that_is_not_there(self):
        for mask, tree in masks_with_a_missing_node():
            self.assertEqual(weakest_link(mask, list(tree)), [-22], f"mask={mask} tree={tree}")

    def test_set_is_not_closed(self):
        for mask, tree in sets_not_closed():
            self.assertEqual(weakest_link(mask, list(tree)), [-33], f"mask={mask} tree={tree}")


class SeveralFaults(unittest.TestCase):
    def test_tree_goes_ahead_of_a_set_that_is_not_closed(self):
        self.assertEqual(weakest_link(2, [0, 5, 1, 100]), [-22])
        self.assertEqual(weakest_link(2, [0, 5, 1, 2, 0]), [-22])
        self.assertEqual(weakest_link(2, [0, 5, 1, 2, 0, 1, 5, 1]), [-22])
        self.assertEqual(weakest_link(1022, CHAIN + [0, 1]), [-22])

    def test_tree_goes_ahead_of_the_empty_set(self):
        for tree in ([0], [0, 5, 1], [0, 100], [1, 5], CHAIN + [0, 1], CHAIN + [0]):
            self.assertEqual(weakest_link(0, list(tree)), [-22], tree)

    def test_missing_node_goes_ahead_of_a_set_that_is_not_closed(self):
        for mask in (8 | 2, 8 | 6, GREATEST - 1):
            self.assertEqual(weakest_link(mask, list(EXAMPLE)), [-22], mask)
        self.assertEqual(weakest_link(1024 | 2, list(CHAIN)), [-22])

    def test_missing_node_alone_is_not_the_empty_set(self):
        # Of the nodes that are there none is in the mask.
        self.assertEqual(weakest_link(8, list(EXAMPLE)), [-22])
        self.assertEqual(weakest_link(1, []), [-22])


class NothingIsKept(unittest.TestCase):
    def test_list_is_unchanged(self):
        calls = [(7, EXAMPLE), (0, EXAMPLE), (2, EXAMPLE), (8, EXAMPLE), (ALL, CHAIN), (ALL, STAR)]
        calls += [(1, [0, 100]), (0, [0]), (0, []), (1, CHAIN + [0])]
        for mask, tree in calls:
            handed_in = WatchedList(tree)
            weakest_link(mask, handed_in)
            self.assertEqual(list(handed_in), tree)

    def test_second_call_answers_as_the_first(self):
        calls = [(7, EXAMPLE), (0, EXAMPLE), (2, EXAMPLE), (8, EXAMPLE), (ALL, CHAIN), (0, [])]
        expected = [[2, 1, 1], [-6], [-33], [-22], [0, 990, 10], [-6]]
        for i in range(3):
            results = [weakest_link(mask, list(tree)) for mask, tree in calls]
            self.assertEqual(results, expected)
            for result in results:
                result.append(7)

    def test_same_list_with_new_content(self):
        tree = list(EXAMPLE)
        self.assertEqual(weakest_link(7, tree), [2, 1, 1])
        tree[5] = 9
        self.assertEqual(weakest_link(7, tree), [1, 2, 1])


if __name__ == "__main__":
    unittest.main()
