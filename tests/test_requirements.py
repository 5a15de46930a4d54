"""The four requirements of the document, which join several operations."""

import unittest
from fractions import Fraction

from tests.cases import GREATEST, cuts_of
from tests.plain_search import Numbers, all_trees, best_of, closed_sets, many_trees
from weaklink.pruning import best_with_limit, branch, count_closed_sets, objective, optimal_pruning
from weaklink.pruning import pruning_sequence, weakest_link


def all_of(tree):
    return (1 << len(tree) // 2) - 1


def costs_around_the_cuts(tree):
    """Costs within their limits: at the mean of each cut, right below and above it, and some at the edges."""
    costs = [(0, 1), (0, 99), (1, 99), (1, 2), (4, 3), (7, 2), (99, 1), (999, 99), (999, 1)]
    for node, weight, count, remaining in cuts_of(pruning_sequence(list(tree))):
        costs += [(weight, count), (9 * weight - 1, 9 * count), (9 * weight + 1, 9 * count)]
    return [(p, q) for p, q in costs if 0 <= p <= 999 and q <= 99]


class Nesting(unittest.TestCase):
    def check(self, costs, tree):
        larger = all_of(tree)
        for p, q in sorted(costs, key=lambda cost: Fraction(*cost)):
            mask = optimal_pruning(p, q, list(tree))[1]
            self.assertEqual(mask & ~larger, 0, f"p={p} q={q} tree={tree}")
            larger = mask

    def test_costs_at_even_distances(self):
        costs = {Fraction(p, q) for q in (1, 2, 3, 7) for p in range(0, 100 * q, 3) if p <= 999}
        numbers = Numbers(3)
        for n in range(11):
            for most_weight in (2, 20, 99):
                self.check([(cost.numerator, cost.denominator) for cost in costs], numbers.tree(n, most_weight))

    def test_costs_around_the_cuts(self):
        for tree in many_trees(31):
            self.check(costs_around_the_cuts(tree), tree)


class PruningSequence(unittest.TestCase):
    def left_at(self, p, q, tree):
        """The set that remains after the cuts whose mean weight is at most the cost."""
        cuts = cuts_of(pruning_sequence(list(tree)))
        cheap = [cut for cut in cuts if Fraction(cut[1], cut[2]) <= Fraction(p, q)]
        return cheap[-1][3] if cheap else all_of(tree)

    def test_cuts_up_to_the_cost_leave_the_optimal_pruning(self):
        for tree in many_trees(18):
            for p, q in costs_around_the_cuts(tree):
                mask = optimal_pruning(p, q, list(tree))[1]
                self.assertEqual(self.left_at(p, q, tree), mask, f"p={p} q={q} tree={tree}")

    def test_cuts_up_to_the_cost_leave_the_best_of_all_sets(self):
        for tree in many_trees(19)[::3]:
            sets = closed_sets(tree)
            for node, weight, count, remaining in cuts_of(pruning_sequence(list(tree))):
                mask = best_of(weight, count, sets)[1]
                self.assertEqual(self.left_at(weight, count, tree), mask, f"cut={node} tree={tree}")

    def test_cut_by_cut_with_the_other_operations(self):
        for tree in many_trees(14):
            mask = all_of(tree)
            for node, weight, count, remaining in cuts_of(pruning_sequence(list(tree))):
                self.assertEqual(weakest_link(mask, list(tree)), [node, weight, count], tree)
                self.assertEqual(branch(mask, node, list(tree)), [count, mask - remaining, weight], tree)
                mask = remaining


class IncreasingCosts(unittest.TestCase):
    def test_means_never_decrease(self):
        for tree in [*many_trees(20), *all_trees(4, range(3))]:
            means = [Fraction(cut[1], cut[2]) for cut in cuts_of(pruning_sequence(list(tree)))]
            self.assertEqual(means, sorted(means), tree)


class Optimality(unittest.TestCase):
    def check(self, costs, tree):
        masks = [mask for mask, count, weight in closed_sets(tree)]
        for p, q in costs:
            mask = optimal_pruning(p, q, list(tree))[1]
            greatest = max(objective(p, q, each, list(tree))[1] for each in masks)
            self.assertEqual(objective(p, q, mask, list(tree)), [0, greatest], f"p={p} q={q} tree={tree}")

    def test_no_closed_set_of_a_small_tree_is_better(self):
        for n in range(4):
            for tree in all_trees(n, range(3)):
                self.check([(0, 1), (1, 2), (2, 3), (1, 1), (4, 3), (3, 2), (2, 1)], tree)

    def test_no_closed_set_of_a_larger_tree_is_better(self):
        numbers = Numbers(32)
        for n in range(4, 11):
            for most_weight in (1, 5, 99):
                tree = numbers.tree(n, most_weight)
                self.check([(0, 1), (most_weight, 2), (numbers.below(999), 1 + numbers.below(99)), (999, 99)], tree)

    def test_no_set_with_as_many_nodes_weighs_more(self):
        for tree in many_trees(33)[::4]:
            for p, q in costs_around_the_cuts(tree)[:12]:
                count, mask, weight = optimal_pruning(p, q, list(tree))
                self.assertEqual(best_with_limit(count, list(tree))[0], weight, f"p={p} q={q} tree={tree}")


class ClosedSets(unittest.TestCase):
    def test_as_many_as_objective_takes(self):
        numbers = Numbers(34)
        for n in range(11):
            tree = numbers.tree(n, 9)
            results = [objective(1, 1, mask, list(tree)) for mask in range(1 << n)]
            self.assertEqual(count_closed_sets(list(tree)), [sum(result != [-33] for result in results)], tree)

    def test_all_nodes_are_the_heaviest_of_them(self):
        for tree in many_trees(35):
            weight = best_with_limit(GREATEST, list(tree))[0]
            self.assertEqual(objective(0, 1, all_of(tree), list(tree)), [0, weight], tree)


if __name__ == "__main__":
    unittest.main()
