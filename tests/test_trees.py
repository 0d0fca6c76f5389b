"""Stage 4: least trees [8]."""

import unittest
from copy import deepcopy

from homeround.errors import NotEven
from homeround.trees import is_least_tree, least_tree
from tests.samples import (
    HUGE, STRANGE, all_ties, all_trees, both_ways, do_tie_together, even_tables, made_even, numbers, on_a_line,
    same_ways, uneven_tables,
)

FOUR = ((0, 1, 4, 5), (1, 0, 2, 6), (4, 2, 0, 3), (5, 6, 3, 0))
FOUR_TREE = [(0, 1), (1, 2), (2, 3)]


def tree_length(table, ties):
    return sum(table[i][j] for i, j in ties)


def least_of_all(table):
    return min(tree_length(table, ties) for ties in all_trees(tuple(range(len(table)))))


def ties_between(ties, i, j):
    """The ties along a tree from i to j: those without which they don't hang together."""
    return [tie for at, tie in enumerate(ties) if not hangs(ties[:at] + ties[at + 1:], i, j)]


def hangs(ties, i, j):
    reached = {i}
    for step in ties:
        for tie in ties:
            if reached & set(tie):
                reached |= set(tie)
    return j in reached


class LeastTree(unittest.TestCase):
    def check(self, table):
        many = len(table)
        told = least_tree(table)
        self.assertIs(type(told), tuple)
        total, ties = told
        self.assertIs(type(total), int)
        self.assertIs(type(ties), list)
        self.assertEqual(len(ties), many - 1)
        self.assertEqual(ties, sorted(ties))
        for tie in ties:
            self.assertIs(type(tie), tuple)
            self.assertIn(tie, all_ties(many))
        self.assertTrue(do_tie_together(range(many), ties))
        self.assertEqual(tree_length(table, ties), total)
        self.assertIs(is_least_tree(table, ties), True)
        return total, ties

    def test_against_all_trees(self):
        for table in even_tables(1, 5) + [made_even(6, 9, seed) for seed in range(3)]:
            self.assertEqual(self.check(table)[0], least_of_all(table), table)

    def test_more_tables_of_few_places(self):
        for many in range(2, 6):
            for seed in range(20):
                for top in (1, 5, 10 ** 6):
                    table = made_even(many, top, seed)
                    self.assertEqual(self.check(table)[0], least_of_all(table), table)

    def test_each_way_outside_is_no_shorter(self):
        for table in even_tables():
            ties = self.check(table)[1]
            for i, j in all_ties(len(table)):
                if (i, j) not in ties:
                    for k, m in ties_between(ties, i, j):
                        self.assertGreaterEqual(table[i][j], table[k][m])

    def test_one_and_two_places(self):
        self.assertEqual(least_tree(((0,),)), (0, []))
        self.assertEqual(least_tree(((0, 7), (7, 0))), (7, [(0, 1)]))
        self.assertEqual(least_tree(((0, 0), (0, 0))), (0, [(0, 1)]))

    def test_known_ones(self):
        self.assertEqual(least_tree(FOUR), (6, FOUR_TREE))
        for many in range(2, 9):
            chain = [(at, at + 1) for at in range(many - 1)]
            self.assertEqual(least_tree(on_a_line(many)), (5 * (many - 1), chain))
            star = same_ways(many, 8)
            for j in range(many - 1):
                star = both_ways(star, j, many - 1, 3)
            self.assertEqual(least_tree(star), (3 * (many - 1), [(j, many - 1) for j in range(many - 1)]))

    def test_a_new_list_each_time(self):
        first = least_tree(FOUR)[1]
        first.clear()
        self.assertEqual(least_tree(FOUR), (6, FOUR_TREE))
        least_tree(((0,),))[1].append((0, 1))
        self.assertEqual(least_tree(((0,),)), (0, []))

    def test_not_even(self):
        for table in uneven_tables():
            with self.assertRaises(NotEven):
                least_tree(table)


class IsLeastTree(unittest.TestCase):
    def refute(self, table, ties):
        kept = repr(ties)
        self.assertIs(is_least_tree(table, ties), False, (table, ties))
        self.assertEqual(repr(ties), kept)

    def test_each_least_tree_is_let_by(self):
        answers = set()
        for table in even_tables(1, 5) + [made_even(5, 2, seed) for seed in range(6)] + [made_even(6, 3, 1)]:
            least = least_of_all(table)
            for ties in all_trees(tuple(range(len(table)))):
                handed = list(ties)
                answer = is_least_tree(table, handed)
                self.assertIs(answer, tree_length(table, ties) == least, (table, ties))
                self.assertEqual(handed, ties)
                answers.add(answer)
        self.assertEqual(answers, {True, False})

    def test_all_like_lengths(self):
        for many in range(2, 9):
            table = same_ways(many, 6)
            for ties in ([(0, at) for at in range(1, many)], [(at, at + 1) for at in range(many - 1)]):
                self.assertIs(is_least_tree(table, ties), True)
                for i, j in all_ties(many):
                    shorter = is_least_tree(both_ways(table, i, j, 5), ties)
                    self.assertIs(shorter, (i, j) in ties)
                    longer = is_least_tree(both_ways(table, i, j, 7), ties)
                    self.assertIs(longer, (i, j) not in ties or many == 2)

    def test_one_and_two_places(self):
        self.assertIs(is_least_tree(((0,),), []), True)
        two = ((0, 7), (7, 0))
        self.assertIs(is_least_tree(two, [(0, 1)]), True)
        for ties in ([], [(0, 0)], [(1, 0)], [(1, 1)], [(0, 1), (0, 1)], [(0, 2)], [(-1, 0)], [(0,)], [0, 1], [()]):
            self.refute(two, ties)
            if ties:
                self.refute(((0,),), ties)

    def test_no_trees(self):
        self.assertIs(is_least_tree(FOUR, FOUR_TREE), True)
        for ties in (
            [], FOUR_TREE[1:], FOUR_TREE[:2], [(0, 1), (2, 3)], FOUR_TREE[::-1], [(1, 2), (0, 1), (2, 3)],
            [(0, 1), (2, 3), (1, 2)], [(1, 0), (1, 2), (2, 3)], [(0, 1), (2, 1), (2, 3)], [(0, 1), (1, 2), (3, 2)],
            FOUR_TREE + [(2, 3)], [(0, 1)] + FOUR_TREE, [(0, 1), (1, 2), (1, 2)], [(0, 1), (0, 1), (2, 3)],
            [(0, 1), (0, 2), (1, 2)], [(0, 1), (0, 2), (1, 2), (2, 3)], [(0, 1), (1, 2), (2, 4)],
            [(-1, 1), (1, 2), (2, 3)], [(0, 1), (1, 2), (2, HUGE)], [(-HUGE, 1), (0, 1), (1, 2)],
            [(0, 1), (1, 2), (2, 3), (3, 4)], [(0, 1), (1, 2), (2, 2)], [(0, 1), (1, 2), (2, -1)],
            [(-4, -3), (-3, -2), (-2, -1)],
        ):
            self.refute(FOUR, ties)

    def test_no_trees_of_a_table_of_noughts(self):
        noughts = same_ways(4, 0)
        for ties in (
            [(0, 1), (0, 2), (1, 2)], [(1, 2), (1, 3), (2, 3)], [(0, 1), (0, 1), (2, 3)], [(0, 1), (2, 3)],
            [(0, 3), (0, 2), (0, 1)], [(1, 0), (1, 2), (1, 3)], [(0, 1), (0, 2), (0, 4)], [(0, 0), (0, 1), (2, 3)],
            [(0, 1), (1, 2), (2, 3), (2, 3)], [(0, 1), (0, 2), (0, 3), (1, 2)], [(-1, 0), (0, 1), (0, 2)],
        ):
            self.refute(noughts, ties)
        for ties in all_trees((0, 1, 2, 3)):
            self.assertIs(is_least_tree(noughts, ties), True)

    def test_a_longer_tree(self):
        self.refute(FOUR, [(0, 1), (1, 2), (0, 3)])
        self.refute(FOUR, [(0, 1), (0, 3), (1, 2)])
        self.refute(FOUR, [(0, 1), (0, 2), (2, 3)])
        self.refute(FOUR, [(0, 1), (0, 2), (0, 3)])

    def test_strange_things(self):
        for thing in STRANGE + (
            [0, 1], (0, True), (False, 1), (True, 2), (0, "1"), ("0", 1), "01", (0, None), (0, 1, 2), (0,), ((0, 1),),
            (0, (1,)), ([0], 1), (0, 1, None), {},
        ):
            for at in range(3):
                self.refute(FOUR, FOUR_TREE[:at] + [thing] + FOUR_TREE[at + 1:])
                self.refute(FOUR, FOUR_TREE[:at] + [thing] + FOUR_TREE[at:])
            self.refute(((0,),), [thing])
            self.refute(((0, 7), (7, 0)), [thing])

    def test_truths_for_numbers(self):
        three = same_ways(3, 0)
        self.assertIs(is_least_tree(three, [(0, 1), (1, 2)]), True)
        for ties in ([(False, 1), (1, 2)], [(0, True), (1, 2)], [(0, 1), (True, 2)], [(False, True), (True, 2)]):
            self.refute(three, ties)

    def test_any_lists_against_the_words(self):
        answers = set()
        for seed in range(500):
            source = numbers(seed)
            many = 3 + seed % 2
            table = made_even(many, 1, seed)
            ties = [(next(source) % many, next(source) % many) for count in range(many - 1)]
            if next(source) % 4:
                ties = sorted((min(tie), max(tie)) for tie in ties)
            kept = deepcopy(ties)
            right = ties in all_trees(tuple(range(many))) and tree_length(table, ties) == least_of_all(table)
            answers.add(right)
            self.assertIs(is_least_tree(table, ties), right)
            self.assertEqual(ties, kept)
        self.assertEqual(answers, {True, False})

    def test_not_even_ahead_of_any_list(self):
        for table in uneven_tables():
            chain = [(at, at + 1) for at in range(len(table) - 1)]
            for ties in ([], chain, [None], [(1, 0)], ["01"], [[0, 1]], chain + chain, [True], [(0, HUGE)]):
                with self.assertRaises(NotEven):
                    is_least_tree(table, ties)


if __name__ == "__main__":
    unittest.main()
