import inspect
import unittest

from tests.cases import ALL, CHAIN, EXAMPLE, GREATEST, STAR
from tests.cases import WatchedList, is_number_list, trees_outside_limits, with_entry
from tests.plain_search import Numbers, all_trees, best_within, closed_sets
from weaklink.pruning import best_with_limit


class Interface(unittest.TestCase):
    def test_arguments_by_name_and_place(self):
        self.assertEqual(list(inspect.signature(best_with_limit).parameters), ["limit", "tree"])
        self.assertEqual(best_with_limit(limit=2, tree=list(EXAMPLE)), [7, 3])

    def test_result_is_one_list_of_numbers(self):
        for limit, tree in ((2, EXAMPLE), (0, EXAMPLE), (GREATEST, EXAMPLE), (0, []), (1, [0])):
            result = best_with_limit(limit, list(tree))
            self.assertTrue(is_number_list(result), result)


class OrdinaryInputs(unittest.TestCase):
    def check_limits(self, tree, expected):
        """The answers for the limits from 0 on."""
        self.assertEqual([best_with_limit(limit, list(tree)) for limit in range(len(expected))], expected)

    def test_example_of_the_document(self):
        self.assertEqual(best_with_limit(2, [0, 5, 1, 2, 0, 1]), [7, 3])

    def test_example_tree_for_each_limit(self):
        self.check_limits(EXAMPLE, [[0, 0], [5, 1], [7, 3], [8, 7], [8, 7]])

    def test_nodes_at_the_root_go_by_weight(self):
        self.check_limits([0, 2, 0, 9, 0, 4, 0, 7], [[0, 0], [9, 2], [16, 10], [20, 14], [22, 15], [22, 15]])

    def test_rich_child_comes_with_its_poor_parent_alone(self):
        # The best set of one node is no part of the best set of two.
        self.check_limits([0, 0, 1, 9, 0, 4], [[0, 0], [4, 4], [9, 3], [13, 7]])

    def test_rich_node_far_down(self):
        tree = [0, 1, 1, 1, 2, 50, 0, 9, 0, 8, 0, 7]
        self.check_limits(tree, [[0, 0], [9, 8], [17, 24], [52, 7], [61, 15], [69, 31], [76, 63]])

    def test_chain_is_taken_from_the_root(self):
        chain = [number for i in range(10) for number in (i, i + 1)]
        self.check_limits(chain, [[n * (n + 1) // 2, (1 << n) - 1] for n in range(11)])

    def test_fewer_nodes_than_allowed_may_be_the_best(self):
        self.assertEqual(best_with_limit(2, [0, 9, 1, 0]), [9, 1])


class Ties(unittest.TestCase):
    def test_smallest_mask_of_equal_nodes(self):
        for n in range(11):
            self.assertEqual(best_with_limit(n, list(STAR)), [99 * n, (1 << n) - 1])
        self.assertEqual(best_with_limit(1, [0, 2, 0, 3, 0, 3]), [3, 2])
        self.assertEqual(best_with_limit(2, [0, 3, 0, 2, 0, 2, 0, 2]), [5, 3])

    def test_smallest_mask_may_have_more_nodes(self):
        # The sets of nodes 0 and 1 and of node 2 alone weigh the same.
        self.assertEqual(best_with_limit(1, [0, 0, 1, 5, 0, 5]), [5, 4])
        self.assertEqual(best_with_limit(2, [0, 0, 1, 5, 0, 5]), [5, 3])

    def test_smallest_mask_may_lack_the_first_node(self):
        # Nodes 1 and 2 (mask 6) weigh as much as nodes 0 and 3 (mask 9).
        self.assertEqual(best_with_limit(2, [0, 1, 0, 1, 2, 5, 1, 5]), [6, 6])

    def test_nodes_of_weight_0_are_left_out(self):
        self.assertEqual(best_with_limit(1, [0, 0]), [0, 0])
        self.assertEqual(best_with_limit(3, [0, 0, 0, 0, 0, 5]), [5, 4])
        self.assertEqual(best_with_limit(3, [0, 5, 1, 0, 0, 0]), [5, 1])
        self.assertEqual(best_with_limit(4, [0, 0, 1, 0, 0, 5, 3, 0]), [5, 4])
        for limit in (0, 1, 9, 10, 11, GREATEST):
            for shape in (CHAIN, STAR):
                tree = [number if i % 2 == 0 else 0 for i, number in enumerate(shape)]
                self.assertEqual(best_with_limit(limit, tree), [0, 0])

    def test_nodes_of_weight_0_above_a_weight_are_kept(self):
        self.assertEqual(best_with_limit(3, [0, 0, 1, 0, 2, 5]), [5, 7])
        self.assertEqual(best_with_limit(2, [0, 0, 1, 0, 2, 5]), [0, 0])


class AgainstPlainSearch(unittest.TestCase):
    def check(self, tree):
        n = len(tree) // 2
        sets = closed_sets(tree)
        for limit in [*range(n + 2), 11, 100, GREATEST]:
            expected = best_within(limit, sets)
            result = best_with_limit(limit, list(tree))
            if result != expected:
                self.assertEqual(result, expected, f"limit={limit} tree={tree}")

    def test_every_small_tree(self):
        for n in range(4):
            for tree in all_trees(n, range(4)):
                self.check(tree)

    def test_every_tree_of_four_nodes(self):
        for tree in all_trees(4, range(3)):
            self.check(tree)

    def test_larger_trees(self):
        numbers = Numbers(21)
        for n in range(5, 11):
            for most_weight in (0, 1, 2, 9, 99):
                for i in range(2):
                    self.check(numbers.tree(n, most_weight))

    def test_chains_and_stars_of_ten_nodes(self):
        numbers = Numbers(22)
        for most_weight in (1, 99):
            self.check([number for i in range(10) for number in (i, numbers.below(most_weight + 1))])
            self.check([number for i in range(10) for number in (0, numbers.below(most_weight + 1))])


class Edges(unittest.TestCase):
    def test_empty_tree(self):
        for limit in (0, 1, 10, 11, GREATEST):
            self.assertEqual(best_with_limit(limit, []), [0, 0])

    def test_limit_0(self):
        for tree in (EXAMPLE, CHAIN, STAR, [0, 0], [0, 99]):
            self.assertEqual(best_with_limit(0, list(tree)), [0, 0], tree)

    def test_limit_1(self):
        self.assertEqual(best_with_limit(1, list(CHAIN)), [99, 1])
        self.assertEqual(best_with_limit(1, with_entry([0, 98] * 10, 19, 99)), [99, 512])
        self.assertEqual(best_with_limit(1, [0, 7]), [7, 1])

    def test_limit_at_the_number_of_nodes_and_beside_it(self):
        for n in range(1, 11):
            self.assertEqual(best_with_limit(n - 1, CHAIN[:2 * n]), [99 * (n - 1), (1 << n - 1) - 1])
            for limit in (n, n + 1, 1000, 1 << 31, GREATEST - 1, GREATEST):
                self.assertEqual(best_with_limit(limit, CHAIN[:2 * n]), [99 * n, (1 << n) - 1])
                self.assertEqual(best_with_limit(limit, STAR[:2 * n]), [99 * n, (1 << n) - 1])

    def test_ten_nodes_and_more(self):
        for limit in (10, 11, GREATEST):
            for tree in (CHAIN, STAR):
                self.assertEqual(best_with_limit(limit, list(tree)), [990, ALL])
                self.assertEqual(best_with_limit(limit, tree + [0, 99]), [-22])
                self.assertEqual(best_with_limit(limit, tree + [10, 99]), [-22])

    def test_parent_0_and_the_latest_allowed(self):
        for node in range(1, 10):
            tree = with_entry([0, 0] * 10, 2 * node + 1, 5)
            self.assertEqual(best_with_limit(1, with_entry(tree, 2 * node, 0)), [5, 1 << node])
            self.assertEqual(best_with_limit(1, with_entry(tree, 2 * node, node)), [0, 0])
            self.assertEqual(best_with_limit(2, with_entry(tree, 2 * node, node)), [5, 3 << node - 1])
            self.assertEqual(best_with_limit(2, with_entry(tree, 2 * node, node + 1)), [-22])

    def test_weights_99_and_100_at_each_place(self):
        for node in range(10):
            tree = with_entry([0, 98] * 10, 2 * node + 1, 99)
            self.assertEqual(best_with_limit(1, tree), [99, 1 << node])
            self.assertEqual(best_with_limit(1, with_entry(tree, 2 * node + 1, 100)), [-22])


class WrongInputs(unittest.TestCase):
    def test_tree_outside_limits(self):
        for tree in trees_outside_limits():
            for limit in (0, 1, 5, 10, 11, GREATEST):
                self.assertEqual(best_with_limit(limit, list(tree)), [-22], f"limit={limit} tree={tree}")

    def test_list_of_an_odd_length(self):
        for length in range(1, 24, 2):
            for limit in (0, 1, length, GREATEST):
                self.assertEqual(best_with_limit(limit, (CHAIN + [0, 1, 0])[:length]), [-22], length)

    def test_no_limit_is_refused(self):
        for limit in (4, 11, 24, 99, 100, 999, 1000, 1023, 1024, GREATEST):
            self.assertEqual(best_with_limit(limit, list(EXAMPLE)), [8, 7], limit)


class NothingIsKept(unittest.TestCase):
    def test_list_is_unchanged(self):
        calls = [(2, EXAMPLE), (0, EXAMPLE), (GREATEST, EXAMPLE), (5, CHAIN), (5, STAR), (0, []), (1, [0, 0, 1, 9])]
        calls += [(1, [0, 100]), (0, [0]), (1, [1, 5]), (1, CHAIN + [0, 1]), (1, CHAIN + [0])]
        for limit, tree in calls:
            handed_in = WatchedList(tree)
            best_with_limit(limit, handed_in)
            self.assertEqual(list(handed_in), tree)

    def test_second_call_answers_as_the_first(self):
        calls = [(2, EXAMPLE), (0, EXAMPLE), (1, EXAMPLE), (5, CHAIN), (1, [0, 100]), (3, [])]
        expected = [[7, 3], [0, 0], [5, 1], [495, 31], [-22], [0, 0]]
        for i in range(3):
            results = [best_with_limit(limit, list(tree)) for limit, tree in calls]
            self.assertEqual(results, expected)
            for result in results:
                result.append(7)

    def test_same_list_with_new_content(self):
        tree = list(EXAMPLE)
        self.assertEqual(best_with_limit(2, tree), [7, 3])
        tree[5] = 9
        self.assertEqual(best_with_limit(2, tree), [14, 5])


if __name__ == "__main__":
    unittest.main()
