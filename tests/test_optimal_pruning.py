import inspect
import unittest

from tests.cases import ALL, CHAIN, COSTS_OUTSIDE_LIMITS, EXAMPLE, GREATEST, STAR
from tests.cases import WatchedList, is_number_list, trees_outside_limits, with_entry
from tests.plain_search import Numbers, all_trees, best_of, closed_sets
from weaklink.pruning import optimal_pruning


class Interface(unittest.TestCase):
    def test_arguments_by_name_and_place(self):
        self.assertEqual(list(inspect.signature(optimal_pruning).parameters), ["p", "q", "tree"])
        self.assertEqual(optimal_pruning(p=3, q=1, tree=list(EXAMPLE)), [1, 1, 5])

    def test_result_is_one_list_of_numbers(self):
        for result in (optimal_pruning(3, 1, list(EXAMPLE)), optimal_pruning(0, 1, []), optimal_pruning(0, 0, [])):
            self.assertTrue(is_number_list(result), result)


class OrdinaryInputs(unittest.TestCase):
    def test_example_of_the_document(self):
        self.assertEqual(optimal_pruning(3, 1, [0, 5, 1, 2, 0, 1]), [1, 1, 5])

    def test_example_tree_for_other_costs(self):
        self.assertEqual(optimal_pruning(0, 1, list(EXAMPLE)), [3, 7, 8])
        self.assertEqual(optimal_pruning(1, 2, list(EXAMPLE)), [3, 7, 8])
        self.assertEqual(optimal_pruning(3, 2, list(EXAMPLE)), [2, 3, 7])
        self.assertEqual(optimal_pruning(9, 2, list(EXAMPLE)), [1, 1, 5])
        self.assertEqual(optimal_pruning(6, 1, list(EXAMPLE)), [0, 0, 0])

    def test_poor_node_is_kept_for_its_rich_child(self):
        self.assertEqual(optimal_pruning(4, 1, [0, 0, 1, 9]), [2, 3, 9])

    def test_rich_child_falls_with_its_poor_parent(self):
        self.assertEqual(optimal_pruning(5, 1, [0, 0, 1, 9]), [0, 0, 0])

    def test_poor_child_takes_nothing_from_its_parent(self):
        self.assertEqual(optimal_pruning(5, 1, [0, 6, 1, 0]), [1, 1, 6])

    def test_fraction_is_not_rounded(self):
        self.assertEqual(optimal_pruning(5, 2, [0, 3, 0, 2]), [1, 1, 3])
        self.assertEqual(optimal_pruning(98, 99, [0, 1]), [1, 1, 1])
        self.assertEqual(optimal_pruning(100, 99, [0, 1]), [0, 0, 0])


class Ties(unittest.TestCase):
    def test_node_that_gains_nothing_is_left_out(self):
        self.assertEqual(optimal_pruning(3, 1, [0, 3]), [0, 0, 0])
        self.assertEqual(optimal_pruning(99, 99, [0, 1]), [0, 0, 0])
        self.assertEqual(optimal_pruning(3, 1, [0, 5, 1, 3]), [1, 1, 5])

    def test_branch_that_gains_nothing_is_left_out_whole(self):
        self.assertEqual(optimal_pruning(3, 1, [0, 1, 1, 5]), [0, 0, 0])
        self.assertEqual(optimal_pruning(3, 1, [0, 9, 1, 1, 2, 5]), [1, 1, 9])

    def test_cost_0_leaves_out_what_weighs_nothing(self):
        self.assertEqual(optimal_pruning(0, 1, [0, 0]), [0, 0, 0])
        self.assertEqual(optimal_pruning(0, 99, [0, 0, 1, 0, 0, 0]), [0, 0, 0])
        self.assertEqual(optimal_pruning(0, 1, [0, 4, 1, 0, 0, 0]), [1, 1, 4])

    def test_cost_0_keeps_weightless_node_above_a_weight(self):
        self.assertEqual(optimal_pruning(0, 1, [0, 0, 1, 1]), [2, 3, 1])


class AgainstPlainSearch(unittest.TestCase):
    def check(self, costs, tree):
        sets = closed_sets(tree)
        for p, q in costs:
            expected = best_of(p, q, sets)
            result = optimal_pruning(p, q, list(tree))
            if result != expected:
                self.assertEqual(result, expected, f"p={p} q={q} tree={tree}")

    def test_every_small_tree(self):
        costs = [(0, 1), (1, 2), (1, 1), (4, 3), (3, 2), (5, 3), (2, 1), (3, 1)]
        for n in range(4):
            for tree in all_trees(n, range(5)):
                self.check(costs, tree)

    def test_every_tree_of_four_nodes(self):
        for tree in all_trees(4, range(3)):
            self.check([(0, 1), (1, 2), (2, 3), (1, 1), (4, 3), (3, 2)], tree)

    def test_larger_trees(self):
        numbers = Numbers(1)
        for n in range(5, 11):
            for most_weight in (1, 3, 9, 99):
                for i in range(5):
                    tree = numbers.tree(n, most_weight)
                    costs = [(numbers.below(most_weight * q + 1), q) for q in (1, 1, 2, 3, 5)]
                    # The mean weights of closed sets are the costs at which ties come about.
                    means = [(each[2], each[1]) for each in closed_sets(tree)[1:20]]
                    self.check(costs + [(p, q) for p, q in means if p <= 999], tree)

    def test_costs_at_the_edges(self):
        numbers = Numbers(2)
        for n in range(11):
            for i in range(4):
                self.check([(p, q) for p in (0, 1, 998, 999) for q in (1, 2, 10, 11, 98, 99)], numbers.tree(n, 99))


class EqualCosts(unittest.TestCase):
    def test_fraction_may_be_written_otherwise(self):
        numbers = Numbers(4)
        for i in range(30):
            tree = numbers.tree(10, 12)
            for p in range(13):
                results = [optimal_pruning(p * q, q, list(tree)) for q in (1, 2, 50, 76)]
                self.assertEqual(results, [results[0]] * 4, f"p={p} tree={tree}")


class Edges(unittest.TestCase):
    def test_empty_tree(self):
        for p, q in ((0, 1), (999, 1), (0, 99), (999, 99)):
            self.assertEqual(optimal_pruning(p, q, []), [0, 0, 0])

    def test_ten_nodes_and_the_greatest_weight(self):
        for tree in (CHAIN, STAR):
            self.assertEqual(optimal_pruning(0, 1, list(tree)), [10, ALL, 990])
            self.assertEqual(optimal_pruning(98, 1, list(tree)), [10, ALL, 990])
            self.assertEqual(optimal_pruning(99, 1, list(tree)), [0, 0, 0])

    def test_last_of_ten_nodes_counts(self):
        light = [number for i in range(10) for number in (i, 0)]
        self.assertEqual(optimal_pruning(9, 1, with_entry(light, 19, 99)), [10, ALL, 99])
        self.assertEqual(optimal_pruning(10, 1, with_entry(light, 19, 99)), [0, 0, 0])
        flat = [0] * 20
        self.assertEqual(optimal_pruning(10, 1, with_entry(flat, 19, 99)), [1, 512, 99])

    def test_parent_0_and_the_latest_allowed(self):
        for node in range(10):
            for parent in (0, node):
                tree = with_entry(STAR, 2 * node, parent)
                self.assertEqual(optimal_pruning(0, 1, tree), [10, ALL, 990])

    def test_weight_99_at_each_place(self):
        for node in range(10):
            tree = with_entry([0] * 20, 2 * node + 1, 99)
            self.assertEqual(optimal_pruning(98, 1, tree), [1, 1 << node, 99])

    def test_greatest_and_least_p_and_q(self):
        self.assertEqual(optimal_pruning(999, 1, [0, 99]), [0, 0, 0])
        self.assertEqual(optimal_pruning(999, 99, [0, 11, 0, 10]), [1, 1, 11])
        self.assertEqual(optimal_pruning(0, 1, [0, 1]), [1, 1, 1])
        self.assertEqual(optimal_pruning(0, 99, [0, 1]), [1, 1, 1])


class WrongInputs(unittest.TestCase):
    def test_tree_outside_limits(self):
        for tree in trees_outside_limits():
            for p, q in ((0, 1), (3, 1), (999, 99)):
                self.assertEqual(optimal_pruning(p, q, list(tree)), [-22], tree)

    def test_cost_outside_limits(self):
        for p, q in COSTS_OUTSIDE_LIMITS:
            for tree in ([], EXAMPLE, CHAIN):
                self.assertEqual(optimal_pruning(p, q, list(tree)), [-22], f"p={p} q={q} tree={tree}")

    def test_tree_and_cost_outside_limits(self):
        for tree in trees_outside_limits():
            self.assertEqual(optimal_pruning(1000, 0, list(tree)), [-22], tree)
            self.assertEqual(optimal_pruning(GREATEST, GREATEST, list(tree)), [-22], tree)


class NothingIsKept(unittest.TestCase):
    def test_list_is_unchanged(self):
        for p, q, tree in ((3, 1, EXAMPLE), (0, 1, CHAIN), (1000, 1, CHAIN), (3, 1, [0, 100]), (1, 1, [0]), (0, 1, [])):
            handed_in = WatchedList(tree)
            optimal_pruning(p, q, handed_in)
            self.assertEqual(list(handed_in), tree)

    def test_second_call_answers_as_the_first(self):
        calls = [(3, 1, EXAMPLE), (0, 1, CHAIN), (1000, 1, EXAMPLE), (3, 1, [1, 1]), (98, 1, STAR), (0, 1, [])]
        expected = [[1, 1, 5], [10, ALL, 990], [-22], [-22], [10, ALL, 990], [0, 0, 0]]
        for i in range(3):
            results = [optimal_pruning(p, q, list(tree)) for p, q, tree in calls]
            self.assertEqual(results, expected)
            for result in results:
                result.append(7)

    def test_same_list_with_new_content(self):
        tree = list(EXAMPLE)
        self.assertEqual(optimal_pruning(3, 1, tree), [1, 1, 5])
        tree[1] = 2
        self.assertEqual(optimal_pruning(3, 1, tree), [0, 0, 0])


if __name__ == "__main__":
    unittest.main()
