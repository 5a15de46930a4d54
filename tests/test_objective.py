import inspect
import unittest

from tests.cases import ALL, CHAIN, COSTS_OUTSIDE_LIMITS, EXAMPLE, GREATEST, STAR
from tests.cases import WatchedList, is_number_list, masks_with_a_missing_node, sets_not_closed
from tests.cases import trees_outside_limits, with_entry
from tests.plain_search import Numbers, all_trees, closed, closed_sets, count_and_weight
from weaklink.pruning import objective, optimal_pruning


def expected_answer(p, q, mask, tree):
    """What objective is to answer while tree, p and q are within their limits."""
    if mask >= 1 << len(tree) // 2:
        return [-22]
    if not closed(mask, tree):
        return [-33]
    count, weight = count_and_weight(mask, tree)
    return [0, q * weight - p * count]


class Interface(unittest.TestCase):
    def test_arguments_by_name_and_place(self):
        self.assertEqual(list(inspect.signature(objective).parameters), ["p", "q", "mask", "tree"])
        self.assertEqual(objective(p=3, q=2, mask=1, tree=list(EXAMPLE)), [0, 7])

    def test_result_is_one_list_of_numbers(self):
        for p, mask in ((3, 1), (999, 7), (0, 0), (1000, 1), (3, 8), (3, 2)):
            result = objective(p, 1, mask, list(EXAMPLE))
            self.assertTrue(is_number_list(result), result)


class OrdinaryInputs(unittest.TestCase):
    def test_every_set_of_the_example_tree(self):
        expected = [[0, 0], [0, 7], [-33], [0, 8], [0, -1], [0, 6], [-33], [0, 7]]
        self.assertEqual([objective(3, 2, mask, list(EXAMPLE)) for mask in range(8)], expected)

    def test_value_below_0(self):
        self.assertEqual(objective(3, 1, 7, list(EXAMPLE)), [0, -1])
        self.assertEqual(objective(999, 1, 1, [0, 0]), [0, -999])
        self.assertEqual(objective(22, 1, 1, [0, 0]), [0, -22])
        self.assertEqual(objective(33, 1, 1, [0, 0]), [0, -33])

    def test_value_0(self):
        self.assertEqual(objective(5, 1, 1, list(EXAMPLE)), [0, 0])
        self.assertEqual(objective(0, 1, 1, [0, 0]), [0, 0])

    def test_every_set_of_every_small_tree(self):
        for n in range(4):
            for tree in all_trees(n, (0, 1, 5, 99)):
                for mask in range((1 << n) + 2):
                    for p, q in ((0, 1), (7, 3), (999, 99)):
                        expected = expected_answer(p, q, mask, tree)
                        self.assertEqual(objective(p, q, mask, list(tree)), expected, f"{p} {q} {mask} {tree}")

    def test_every_set_of_larger_trees(self):
        numbers = Numbers(5)
        for n in range(4, 11):
            for i in range(4):
                tree = numbers.tree(n, 99)
                p, q = numbers.below(1000), 1 + numbers.below(99)
                for mask in range(1 << n):
                    expected = expected_answer(p, q, mask, tree)
                    self.assertEqual(objective(p, q, mask, list(tree)), expected, f"{p} {q} {mask} {tree}")

    def test_no_closed_set_has_more_than_the_optimal_pruning(self):
        numbers = Numbers(6)
        for n in range(9):
            tree = numbers.tree(n, 20)
            for p, q in ((0, 1), (5, 1), (21, 2), (300, 17)):
                best = objective(p, q, optimal_pruning(p, q, list(tree))[1], list(tree))
                values = [objective(p, q, mask, list(tree)) for mask, count, weight in closed_sets(tree)]
                self.assertEqual(best, max(values), f"{p} {q} {tree}")


class Edges(unittest.TestCase):
    def test_empty_tree(self):
        for p, q in ((0, 1), (999, 1), (0, 99), (999, 99)):
            self.assertEqual(objective(p, q, 0, []), [0, 0])

    def test_mask_0(self):
        for tree in (EXAMPLE, CHAIN, STAR):
            self.assertEqual(objective(999, 99, 0, list(tree)), [0, 0])

    def test_greatest_mask_of_ten_nodes(self):
        for tree in (CHAIN, STAR):
            self.assertEqual(objective(0, 99, ALL, list(tree)), [0, 98010])
            self.assertEqual(objective(999, 1, ALL, list(tree)), [0, -9000])
            self.assertEqual(objective(999, 99, ALL, list(tree)), [0, 88020])
        self.assertEqual(objective(999, 1, ALL, [0] * 20), [0, -9990])

    def test_greatest_mask_for_each_number_of_nodes(self):
        for n in range(11):
            self.assertEqual(objective(1, 1, (1 << n) - 1, CHAIN[:2 * n]), [0, 98 * n])
            self.assertEqual(objective(1, 1, 1 << n, CHAIN[:2 * n]), [-22])

    def test_parent_0_and_the_latest_allowed(self):
        for node in range(1, 10):
            alone = 1 << node
            self.assertEqual(objective(1, 1, alone, list(STAR)), [0, 98])
            below = with_entry(STAR, 2 * node, node)
            self.assertEqual(objective(1, 1, alone, list(below)), [-33])
            self.assertEqual(objective(1, 1, alone | alone >> 1, list(below)), [0, 196])

    def test_weights_99_and_0_at_each_place(self):
        for node in range(10):
            tree = with_entry([0] * 20, 2 * node + 1, 99)
            self.assertEqual(objective(1, 1, ALL, tree), [0, 89])

    def test_greatest_and_least_p_and_q(self):
        self.assertEqual(objective(0, 1, 1, [0, 3]), [0, 3])
        self.assertEqual(objective(0, 99, 1, [0, 3]), [0, 297])
        self.assertEqual(objective(999, 1, 1, [0, 3]), [0, -996])
        self.assertEqual(objective(999, 99, 1, [0, 3]), [0, -702])


class WrongInputs(unittest.TestCase):
    def test_tree_outside_limits(self):
        for tree in trees_outside_limits():
            for mask in (0, 1, 2, 512, ALL, GREATEST):
                self.assertEqual(objective(3, 1, mask, list(tree)), [-22], f"mask={mask} tree={tree}")

    def test_cost_outside_limits(self):
        for p, q in COSTS_OUTSIDE_LIMITS:
            for tree in ([], EXAMPLE, CHAIN):
                self.assertEqual(objective(p, q, 0, list(tree)), [-22], f"p={p} q={q} tree={tree}")

    def test_mask_names_a_node_that_is_not_there(self):
        for mask, tree in masks_with_a_missing_node():
            self.assertEqual(objective(3, 1, mask, list(tree)), [-22], f"mask={mask} tree={tree}")

    def test_set_is_not_closed(self):
        for mask, tree in sets_not_closed():
            self.assertEqual(objective(3, 1, mask, list(tree)), [-33], f"mask={mask} tree={tree}")


class SeveralFaults(unittest.TestCase):
    def test_tree_or_cost_goes_ahead_of_a_set_that_is_not_closed(self):
        self.assertEqual(objective(3, 1, 2, [0, 5, 1, 100]), [-22])
        self.assertEqual(objective(3, 1, 2, [0, 5, 1, 2, 0]), [-22])
        self.assertEqual(objective(3, 1, 2, [0, 5, 1, 2, 0, 1, 5, 1]), [-22])
        for p, q in COSTS_OUTSIDE_LIMITS:
            self.assertEqual(objective(p, q, 2, list(EXAMPLE)), [-22], f"p={p} q={q}")

    def test_missing_node_goes_ahead_of_a_set_that_is_not_closed(self):
        for mask in (10, 14, 8 | 2, GREATEST - 1):
            self.assertEqual(objective(3, 1, mask, list(EXAMPLE)), [-22], mask)
        self.assertEqual(objective(3, 1, 1024 | 2, list(CHAIN)), [-22])

    def test_all_faults_at_once(self):
        for tree in trees_outside_limits():
            for mask in (2, GREATEST):
                self.assertEqual(objective(1000, 0, mask, list(tree)), [-22], f"mask={mask} tree={tree}")


class NothingIsKept(unittest.TestCase):
    def test_list_is_unchanged(self):
        calls = [(3, 1, 1, EXAMPLE), (3, 1, 2, EXAMPLE), (3, 1, 8, EXAMPLE), (0, 1, ALL, CHAIN)]
        calls += [(1000, 1, 1, CHAIN), (3, 1, 1, [0, 100]), (1, 1, 0, [0]), (0, 1, 0, [])]
        for p, q, mask, tree in calls:
            handed_in = WatchedList(tree)
            objective(p, q, mask, handed_in)
            self.assertEqual(list(handed_in), tree)

    def test_second_call_answers_as_the_first(self):
        calls = [(3, 1, 7, EXAMPLE), (3, 1, 2, EXAMPLE), (3, 1, 8, EXAMPLE), (0, 1, ALL, STAR), (0, 1, 0, [])]
        expected = [[0, -1], [-33], [-22], [0, 990], [0, 0]]
        for i in range(3):
            results = [objective(p, q, mask, list(tree)) for p, q, mask, tree in calls]
            self.assertEqual(results, expected)
            for result in results:
                result.append(7)

    def test_same_list_with_new_content(self):
        tree = list(EXAMPLE)
        self.assertEqual(objective(3, 1, 7, tree), [0, -1])
        tree[1] = 2
        self.assertEqual(objective(3, 1, 7, tree), [0, -4])


if __name__ == "__main__":
    unittest.main()
