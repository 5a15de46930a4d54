import inspect
import unittest

from tests.cases import ALL, CHAIN, EXAMPLE, GREATEST, STAR
from tests.cases import WatchedList, cuts_of, is_number_list, trees_outside_limits, with_entry
from tests.plain_search import Numbers, all_trees, closed, count_and_weight, many_trees, sequence_of
from weaklink.pruning import pruning_sequence


class Interface(unittest.TestCase):
    def test_arguments_by_name_and_place(self):
        self.assertEqual(list(inspect.signature(pruning_sequence).parameters), ["tree"])
        self.assertEqual(pruning_sequence(tree=[0, 4]), [1, 0, 4, 1, 0])

    def test_result_is_one_list_of_numbers(self):
        for tree in (EXAMPLE, CHAIN, STAR, [], [0], [0, 100]):
            result = pruning_sequence(list(tree))
            self.assertTrue(is_number_list(result), result)

    def test_four_numbers_for_each_cut(self):
        for tree in many_trees(11):
            result = pruning_sequence(list(tree))
            self.assertEqual(len(result), 1 + 4 * result[0], tree)


class OrdinaryInputs(unittest.TestCase):
    def test_example_of_the_document(self):
        self.assertEqual(pruning_sequence([0, 5, 1, 2, 0, 1]), [3, 2, 1, 1, 3, 1, 2, 1, 1, 0, 5, 1, 0])

    def test_one_node(self):
        self.assertEqual(pruning_sequence([0, 7]), [1, 0, 7, 1, 0])

    def test_nodes_at_the_root_go_by_weight(self):
        self.assertEqual(pruning_sequence([0, 1, 0, 2, 0, 3]), [3, 0, 1, 1, 6, 1, 2, 1, 4, 2, 3, 1, 0])
        self.assertEqual(pruning_sequence([0, 3, 0, 1, 0, 2]), [3, 1, 1, 1, 5, 2, 2, 1, 1, 0, 3, 1, 0])

    def test_chain_that_grows_lighter_goes_node_by_node(self):
        self.assertEqual(pruning_sequence([0, 3, 1, 2, 2, 1]), [3, 2, 1, 1, 3, 1, 2, 1, 1, 0, 3, 1, 0])

    def test_chain_that_grows_heavier_goes_at_once(self):
        self.assertEqual(pruning_sequence([0, 1, 1, 2, 2, 3]), [1, 0, 6, 3, 0])

    def test_branch_is_what_the_cuts_before_left(self):
        # Node 0 has a mean of 14 / 3 at first, and 13 / 2 when node 1 is gone.
        self.assertEqual(pruning_sequence([0, 4, 1, 1, 1, 9]), [2, 1, 1, 1, 5, 0, 13, 2, 0])
        # Node 1 has a mean of 11 / 3 at first, above node 4, and 10 / 2 when node 3 is gone.
        tree = [0, 20, 1, 5, 2, 5, 2, 1, 0, 4]
        self.assertEqual(pruning_sequence(tree), [4, 3, 1, 1, 23, 4, 4, 1, 7, 1, 10, 2, 1, 0, 20, 1, 0])

    def test_branch_goes_with_all_that_is_below(self):
        # Node 1 with its child and grandchildren, the last node among them; nodes 3 and 5 stand aside.
        tree = [0, 50, 1, 0, 2, 9, 0, 40, 3, 9, 1, 30, 3, 9]
        self.assertEqual(pruning_sequence(tree), [4, 1, 27, 4, 41, 5, 30, 1, 9, 3, 40, 1, 1, 0, 50, 1, 0])


class Ties(unittest.TestCase):
    def test_lowest_index_of_equal_leaves(self):
        self.assertEqual(pruning_sequence([0, 3, 0, 3, 0, 3]), [3, 0, 3, 1, 6, 1, 3, 1, 4, 2, 3, 1, 0])
        self.assertEqual(pruning_sequence([0, 9, 1, 3, 1, 3]), [3, 1, 3, 1, 5, 2, 3, 1, 1, 0, 9, 1, 0])

    def test_parent_and_child_of_equal_mean_go_at_once(self):
        self.assertEqual(pruning_sequence([0, 3, 1, 3, 2, 3]), [1, 0, 9, 3, 0])
        self.assertEqual(pruning_sequence([0, 9, 1, 3, 2, 3]), [2, 1, 6, 2, 1, 0, 9, 1, 0])

    def test_means_that_are_equal_as_fractions_only(self):
        # 1 / 2 at node 0 and 2 / 4 at node 2; then 2 / 4 at node 0 and 1 / 2 at node 4.
        self.assertEqual(pruning_sequence([0, 0, 1, 1, 0, 0, 3, 0, 4, 1, 4, 1]), [2, 0, 1, 2, 60, 2, 2, 4, 0])
        self.assertEqual(pruning_sequence([0, 0, 1, 0, 2, 1, 2, 1, 0, 0, 5, 1]), [2, 0, 2, 4, 48, 4, 1, 2, 0])

    def test_means_that_are_equal_when_rounded(self):
        # 5 / 3 against 3 / 2.
        self.assertEqual(pruning_sequence([0, 1, 1, 2, 1, 2, 0, 1, 4, 2]), [2, 3, 3, 2, 7, 0, 5, 3, 0])

    def test_weights_0(self):
        self.assertEqual(pruning_sequence([0, 0]), [1, 0, 0, 1, 0])
        self.assertEqual(pruning_sequence([0, 0, 0, 0]), [2, 0, 0, 1, 2, 1, 0, 1, 0])
        self.assertEqual(pruning_sequence([0, 0, 1, 0, 2, 0]), [1, 0, 0, 3, 0])
        self.assertEqual(pruning_sequence([0, 1, 1, 0, 2, 0, 0, 0]), [3, 1, 0, 2, 9, 3, 0, 1, 1, 0, 1, 1, 0])


class TenNodes(unittest.TestCase):
    def test_chain_of_equal_weights(self):
        for weight in (0, 1, 50, 99):
            chain = [number for i in range(10) for number in (i, weight)]
            self.assertEqual(pruning_sequence(chain), [1, 0, 10 * weight, 10, 0])

    def test_chain_that_grows_heavier(self):
        self.assertEqual(pruning_sequence([number for i in range(10) for number in (i, 90 + i)]), [1, 0, 945, 10, 0])

    def test_chain_that_grows_lighter(self):
        expected = [10]
        for node in range(9, -1, -1):
            expected += [node, 99 - node, 1, (1 << node) - 1]
        self.assertEqual(pruning_sequence([number for i in range(10) for number in (i, 99 - i)]), expected)

    def test_star_of_equal_weights(self):
        for weight in (0, 1, 50, 99):
            expected = [10]
            for node in range(10):
                expected += [node, weight, 1, ALL - ((2 << node) - 1)]
            self.assertEqual(pruning_sequence([0, weight] * 10), expected)

    def test_star_that_grows_lighter(self):
        expected = [10]
        for node in range(9, -1, -1):
            expected += [node, 99 - node, 1, (1 << node) - 1]
        self.assertEqual(pruning_sequence([number for i in range(10) for number in (0, 99 - i)]), expected)

    def test_star_below_a_node(self):
        star = [0, 99] + [1, 7] * 9
        expected = [10]
        for node in range(1, 10):
            expected += [node, 7, 1, ALL - ((2 << node) - 2)]
        self.assertEqual(pruning_sequence(star), expected + [0, 99, 1, 0])


class AgainstPlainSearch(unittest.TestCase):
    def check(self, tree):
        cuts = sequence_of(tree)
        expected = [len(cuts)] + [number for cut in cuts for number in cut]
        result = pruning_sequence(list(tree))
        if result != expected:
            self.assertEqual(result, expected, tree)

    def test_every_small_tree(self):
        for n in range(4):
            for tree in all_trees(n, range(5)):
                self.check(tree)

    def test_every_tree_of_four_nodes(self):
        for tree in all_trees(4, range(3)):
            self.check(tree)

    def test_every_shape_of_six_nodes(self):
        numbers = Numbers(12)
        for tree in all_trees(6, [0]):
            self.check([tree[i] if i % 2 == 0 else numbers.below(4) for i in range(12)])

    def test_larger_trees(self):
        for tree in many_trees(13):
            self.check(tree)


class EveryCut(unittest.TestCase):
    def test_numbers_and_weights_add_up_to_the_tree(self):
        for tree in many_trees(15):
            cuts = cuts_of(pruning_sequence(list(tree)))
            self.assertEqual(sum(cut[2] for cut in cuts), len(tree) // 2, tree)
            self.assertEqual(sum(cut[1] for cut in cuts), sum(tree[1::2]), tree)

    def test_nothing_remains_after_the_last_cut_alone(self):
        for tree in many_trees(16):
            remaining = [cut[3] for cut in cuts_of(pruning_sequence(list(tree)))]
            if tree != []:
                self.assertEqual(remaining[-1], 0, tree)
            self.assertNotIn(0, remaining[:-1], tree)

    def test_each_remaining_set_is_closed_and_lacks_the_branch_alone(self):
        for tree in many_trees(17):
            mask = (1 << len(tree) // 2) - 1
            for node, weight, count, remaining in cuts_of(pruning_sequence(list(tree))):
                self.assertTrue(closed(remaining, tree), tree)
                self.assertEqual(remaining & ~mask, 0, tree)
                self.assertEqual(count_and_weight(mask - remaining, tree), (count, weight), tree)
                self.assertEqual((mask - remaining) >> node & 1, 1, tree)
                mask = remaining


class Edges(unittest.TestCase):
    def test_empty_tree(self):
        self.assertEqual(pruning_sequence([]), [0])

    def test_each_number_of_nodes(self):
        for n in range(1, 11):
            self.assertEqual(pruning_sequence(CHAIN[:2 * n]), [1, 0, 99 * n, n, 0])
            self.assertEqual(pruning_sequence(STAR[:2 * n])[0], n)

    def test_ten_nodes_and_more(self):
        self.assertEqual(pruning_sequence(list(CHAIN)), [1, 0, 990, 10, 0])
        self.assertEqual(pruning_sequence(CHAIN + [0, 99]), [-22])
        self.assertEqual(pruning_sequence(CHAIN + [10, 99]), [-22])
        self.assertEqual(len(pruning_sequence(list(STAR))), 41)
        self.assertEqual(pruning_sequence(STAR + [0, 99]), [-22])

    def test_parent_0_and_the_latest_allowed(self):
        for node in range(1, 10):
            least = with_entry(STAR, 2 * node - 1, 0)
            self.assertEqual(pruning_sequence(with_entry(least, 2 * node, 0))[1:4], [node - 1, 0, 1])
            self.assertEqual(pruning_sequence(with_entry(least, 2 * node, node))[1:4], [node - 1, 99, 2])
            self.assertEqual(pruning_sequence(with_entry(least, 2 * node, node + 1)), [-22])

    def test_weights_99_and_100_at_each_place(self):
        for node in range(10):
            tree = with_entry([0, 98] * 10, 2 * node + 1, 99)
            self.assertEqual(pruning_sequence(tree)[-4:], [node, 99, 1, 0])
            self.assertEqual(pruning_sequence(with_entry(tree, 2 * node + 1, 100)), [-22])


class WrongInputs(unittest.TestCase):
    def test_tree_outside_limits(self):
        for tree in trees_outside_limits():
            self.assertEqual(pruning_sequence(list(tree)), [-22], tree)

    def test_list_of_an_odd_length(self):
        for length in range(1, 24, 2):
            for tree in ([0] * length, [GREATEST] * length, (CHAIN + [0, 1, 0])[:length], [0, 99] * 11 + [0]):
                self.assertEqual(pruning_sequence(tree[:length]), [-22], tree[:length])

    def test_parent_is_the_node_itself_or_a_later_one(self):
        for tree in ([1, 5], [0, 5, 2, 5], [2, 5, 0, 5], [0, 5, 3, 5, 0, 5], [3, 5, 1, 5, 2, 5], [0, 5, GREATEST, 5]):
            self.assertEqual(pruning_sequence(list(tree)), [-22], tree)


class NothingIsKept(unittest.TestCase):
    def test_list_is_unchanged(self):
        for tree in (EXAMPLE, CHAIN, STAR, [], [0, 0, 1, 9], [0], [0, 100], [1, 5], CHAIN + [0, 1], CHAIN + [0]):
            handed_in = WatchedList(tree)
            pruning_sequence(handed_in)
            self.assertEqual(list(handed_in), tree)

    def test_second_call_answers_as_the_first(self):
        trees = [EXAMPLE, CHAIN, [0, 100], [], [0, 3, 0, 3], [0]]
        expected = [
            [3, 2, 1, 1, 3, 1, 2, 1, 1, 0, 5, 1, 0],
            [1, 0, 990, 10, 0],
            [-22],
            [0],
            [2, 0, 3, 1, 2, 1, 3, 1, 0],
            [-22],
        ]
        for i in range(3):
            results = [pruning_sequence(list(tree)) for tree in trees]
            self.assertEqual(results, expected)
            for result in results:
                result.append(7)

    def test_same_list_with_new_content(self):
        tree = list(EXAMPLE)
        self.assertEqual(pruning_sequence(tree)[1], 2)
        tree[5] = 9
        self.assertEqual(pruning_sequence(tree)[1], 1)


if __name__ == "__main__":
    unittest.main()
