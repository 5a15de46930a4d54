"""What the document promises of all seven operations."""

import contextlib
import inspect
import io
import unittest

from tests.cases import CHAIN, EXAMPLE, GREATEST, STAR
from tests.cases import WatchedList, is_number_list, trees_outside_limits
from weaklink import pruning

# Of each operation the arguments ahead of the tree, within their limits and outside.
ARGUMENTS = [
    ("optimal_pruning", [(3, 1), (0, 99), (1000, 1)]),
    ("objective", [(3, 1, 1), (999, 99, 0), (3, 0, 1), (3, 1, 2)]),
    ("branch", [(1, 0), (3, 1), (0, 0), (2, 1), (GREATEST, GREATEST)]),
    ("weakest_link", [(1,), (7,), (0,), (2,)]),
    ("pruning_sequence", [()]),
    ("best_with_limit", [(0,), (2,), (GREATEST,)]),
    ("count_closed_sets", [()]),
]
TREES = [EXAMPLE, CHAIN, STAR, [], [0, 0], [0, 0, 1, 9, 0, 4], [0, 3, 0, 3, 0, 3]]
TREES += [[0], [0, 100], [1, 5], CHAIN + [0, 1], CHAIN + [0]]
CALLS = [(name, first, tree) for name, choices in ARGUMENTS for first in choices for tree in TREES]


def answer(name, first, tree):
    return getattr(pruning, name)(*first, tree)


class Examples(unittest.TestCase):
    def test_six_examples_of_the_document(self):
        self.assertEqual(pruning.optimal_pruning(3, 1, [0, 5, 1, 2, 0, 1]), [1, 1, 5])
        self.assertEqual(pruning.weakest_link(7, [0, 5, 1, 2, 0, 1]), [2, 1, 1])
        expected = [3, 2, 1, 1, 3, 1, 2, 1, 1, 0, 5, 1, 0]
        self.assertEqual(pruning.pruning_sequence([0, 5, 1, 2, 0, 1]), expected)
        self.assertEqual(pruning.best_with_limit(2, [0, 5, 1, 2, 0, 1]), [7, 3])
        self.assertEqual(pruning.count_closed_sets([0, 5, 1, 2, 0, 1]), [6])
        self.assertEqual(pruning.weakest_link(2, [0, 5, 1, 2, 0, 1]), [-33])


class Interface(unittest.TestCase):
    def test_names_and_arguments(self):
        expected = {
            "optimal_pruning": ["p", "q", "tree"],
            "objective": ["p", "q", "mask", "tree"],
            "branch": ["mask", "node", "tree"],
            "weakest_link": ["mask", "tree"],
            "pruning_sequence": ["tree"],
            "best_with_limit": ["limit", "tree"],
            "count_closed_sets": ["tree"],
        }
        for name, parameters in expected.items():
            function = getattr(pruning, name)
            self.assertEqual(list(inspect.signature(function).parameters), parameters)
            self.assertEqual(function.__module__, "weaklink.pruning")

    def test_length_and_signs_of_the_results(self):
        lengths = {
            "optimal_pruning": 3,
            "objective": 2,
            "branch": 3,
            "weakest_link": 3,
            "best_with_limit": 2,
            "count_closed_sets": 1,
        }
        for name, first, tree in CALLS:
            result = answer(name, first, list(tree))
            self.assertTrue(is_number_list(result), result)
            if result[0] < 0:
                self.assertIn(result, [[-2], [-6], [-22], [-33]])
            else:
                self.assertEqual(len(result), lengths.get(name, 1 + 4 * result[0]), (name, first, tree))
                if name != "objective":
                    self.assertGreaterEqual(min(result), 0)

    def test_nothing_is_printed(self):
        printed = io.StringIO()
        with contextlib.redirect_stdout(printed), contextlib.redirect_stderr(printed):
            for name, first, tree in CALLS:
                answer(name, first, list(tree))
        self.assertEqual(printed.getvalue(), "")


class WrongInputs(unittest.TestCase):
    def test_tree_outside_limits_goes_ahead_of_every_other_fault(self):
        for name, choices in ARGUMENTS:
            for first in choices:
                for tree in trees_outside_limits():
                    self.assertEqual(answer(name, first, list(tree)), [-22], (name, first, tree))

    def test_each_code_comes_from_the_operations_that_name_it(self):
        codes = {}
        for name, first, tree in CALLS:
            codes.setdefault(name, set()).update(number for number in answer(name, first, list(tree))[:1] if number < 0)
        expected = {
            "optimal_pruning": {-22},
            "objective": {-22, -33},
            "branch": {-2, -22, -33},
            "weakest_link": {-6, -22, -33},
            "pruning_sequence": {-22},
            "best_with_limit": {-22},
            "count_closed_sets": {-22},
        }
        self.assertEqual(codes, expected)


class NothingIsKept(unittest.TestCase):
    def test_list_is_unchanged(self):
        for name, first, tree in CALLS:
            handed_in = WatchedList(tree)
            answer(name, first, handed_in)
            self.assertEqual(list(handed_in), tree, (name, first))

    def test_second_call_answers_as_the_first(self):
        for name, first, tree in CALLS:
            handed_in = list(tree)
            earlier = answer(name, first, handed_in)
            kept = list(earlier)
            # What was given back belongs to the caller.
            earlier.append(7)
            self.assertEqual(answer(name, first, handed_in), kept, (name, first, tree))

    def test_answers_do_not_hang_on_the_calls_before(self):
        forward = [answer(name, first, list(tree)) for name, first, tree in CALLS]
        backward = [answer(name, first, list(tree)) for name, first, tree in CALLS[::-1]]
        self.assertEqual(forward, backward[::-1])
        by_tree = sorted(range(len(CALLS)), key=lambda place: (CALLS[place][2], place))
        for place in by_tree:
            name, first, tree = CALLS[place]
            self.assertEqual(answer(name, first, list(tree)), forward[place], (name, first, tree))

    def test_same_list_with_new_content(self):
        for name, choices in ARGUMENTS:
            for first in choices:
                handed_in = list(EXAMPLE)
                for tree in (EXAMPLE, CHAIN, [0, 100], [0, 9, 1, 0, 2, 4], [], EXAMPLE):
                    handed_in[:] = tree
                    self.assertEqual(answer(name, first, handed_in), answer(name, first, list(tree)), (name, tree))


if __name__ == "__main__":
    unittest.main()
