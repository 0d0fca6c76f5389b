"""Stage 6: rounds by trees [12], pairings, and rounds by trees and pairs [13]."""

import unittest
from fractions import Fraction
from itertools import combinations

from homeround.errors import NotEven, NotStraight, TooFew
from homeround.rounds import by_pairs, pairing, walked
from homeround.shares import shares
from homeround.trees import is_least_tree, least_tree
from tests.samples import (
    all_pairings, all_ties, all_trees, even_tables, made, made_even, numbers, on_a_line, round_length,
    same_ways, shortest_length, straight_tables, straightened, uneven_tables, with_way,
)


def whole_walk(ties, place=0, before=None):
    """The whole walk round a tree, each place as often as it is come to."""
    gone = [place]
    for other in range(9):
        if tuple(sorted((place, other))) in ties and other != before:
            gone += whole_walk(ties, other, place) + [place]
    return gone


def first_come(places):
    return tuple(dict.fromkeys(places))


def some_tree(many, seed):
    """A tree of many places, each tied to an earlier one in an order that hangs on the seed."""
    source = numbers(seed)
    order = sorted(range(many), key=lambda place: next(source))
    return sorted(
        tuple(sorted((order[at], order[next(source) % at]))) for at in range(1, many)
    )


class Walked(unittest.TestCase):
    def check(self, table, ties):
        kept = list(ties)
        round_ = walked(table, ties)
        self.assertEqual(ties, kept)
        self.assertIs(type(round_), tuple)
        self.assertEqual({type(place) for place in round_}, {int})
        self.assertEqual(round_, first_come(whole_walk(ties)))
        return round_

    def test_all_trees_of_few_places(self):
        for many in range(1, 7):
            table = made_even(many, 9, many)
            for ties in all_trees(tuple(range(many))):
                self.check(table, ties)

    def test_trees_of_seven_and_eight_places(self):
        for many in (7, 8):
            table = made_even(many, 9, many)
            for seed in range(200):
                self.check(table, some_tree(many, seed))

    def test_known_ones(self):
        self.assertEqual(walked(((0,),), []), (0,))
        self.assertEqual(walked(((0, 7), (7, 0)), [(0, 1)]), (0, 1))
        table = same_ways(5, 1)
        self.assertEqual(walked(table, [(0, 2), (0, 4), (1, 4), (2, 3)]), (0, 2, 3, 4, 1))
        self.assertEqual(walked(table, [(0, 1), (0, 2), (0, 3), (0, 4)]), (0, 1, 2, 3, 4))
        self.assertEqual(walked(table, [(0, 4), (1, 2), (1, 3), (3, 4)]), (0, 4, 3, 1, 2))
        self.assertEqual(walked(table, [(0, 3), (1, 3), (2, 3), (2, 4)]), (0, 3, 1, 2, 4))
        eight = same_ways(8, 1)
        ties = [(0, 3), (0, 7), (1, 3), (1, 6), (2, 7), (3, 4), (5, 7)]
        self.assertEqual(walked(eight, ties), (0, 3, 1, 6, 4, 7, 2, 5))

    def test_the_lengths_change_nothing(self):
        for seed in range(10):
            ties = some_tree(6, seed)
            told = {walked(made_even(6, top, seed), ties) for top in (0, 1, 9, 10 ** 6)}
            self.assertEqual(len(told), 1)

    def test_of_straight_tables_at_most_twice_the_tree(self):
        for table in straight_tables():
            total, ties = least_tree(table)
            self.assertLessEqual(round_length(table, self.check(table, ties)), 2 * total)
            for seed in range(5):
                ties = some_tree(len(table), seed)
                twice = 2 * sum(table[i][j] for i, j in ties)
                self.assertLessEqual(round_length(table, self.check(table, ties)), twice)

    def test_not_even(self):
        for table in uneven_tables():
            with self.assertRaises(NotEven):
                walked(table, [(0, at) for at in range(1, len(table))])


class Pairing(unittest.TestCase):
    def check(self, table, some):
        answer = pairing(table, some)
        self.assertIs(type(answer), tuple)
        total, pairs = answer
        self.assertIs(type(total), int)
        self.assertIs(type(pairs), list)
        self.assertEqual(pairs, sorted(pairs))
        for pair in pairs:
            self.assertIs(type(pair), tuple)
            self.assertEqual([type(place) for place in pair], [int, int])
            self.assertLess(pair[0], pair[1])
        self.assertEqual(sorted(place for pair in pairs for place in pair), list(some))
        self.assertEqual(total, sum(table[i][j] for i, j in pairs))
        sums = [sum(table[i][j] for i, j in other) for other in all_pairings(some)]
        self.assertEqual(total, min(sums), (table, some))

    def test_some_places_of_all_tables(self):
        for table in even_tables(1, 6):
            for size in (0, 2, 4, 6):
                for some in combinations(range(len(table)), size):
                    self.check(table, some)

    def test_seven_and_eight_places(self):
        for table in even_tables(7, 8) + [made_even(8, top, seed) for seed in range(5) for top in (4, 999)]:
            for size in (0, 2, 4, 6, 8):
                for some in list(combinations(range(len(table)), size))[::5]:
                    self.check(table, some)

    def test_known_ones(self):
        self.assertEqual(pairing(((0,),), ()), (0, []))
        self.assertEqual(pairing(made_even(8, 9, 1), ()), (0, []))
        self.assertEqual(pairing(on_a_line(6), (1, 4)), (15, [(1, 4)]))
        self.assertEqual(pairing(on_a_line(8), (0, 1, 5, 7)), (15, [(0, 1), (5, 7)]))
        self.assertEqual(pairing(on_a_line(8), (0, 1, 2, 3, 4, 5, 6, 7)), (20, [(0, 1), (2, 3), (4, 5), (6, 7)]))
        table = ((0, 9, 1, 9), (9, 0, 9, 2), (1, 9, 0, 9), (9, 2, 9, 0))
        self.assertEqual(pairing(table, (0, 1, 2, 3)), (3, [(0, 2), (1, 3)]))

    def test_a_new_list_each_time(self):
        for some in ((), (0, 3), (0, 1, 2, 4)):
            table = made_even(5, 9, 2)
            first = pairing(table, some)
            kept = (first[0], list(first[1]))
            first[1].append("changed")
            self.assertEqual(pairing(table, some), kept)

    def test_not_even(self):
        for table in uneven_tables():
            for some in ((), (0, 1), tuple(range(len(table) // 2 * 2))):
                with self.assertRaises(NotEven):
                    pairing(table, some)


class ByPairs(unittest.TestCase):
    def check(self, table):
        answer = by_pairs(table)
        self.assertIs(type(answer), tuple)
        round_, tree, pairs = answer
        many = len(table)
        self.assertIs(type(round_), tuple)
        self.assertEqual(round_[0], 0)
        self.assertEqual(sorted(round_), list(range(many)))
        self.assertEqual({type(place) for place in round_}, {int})
        self.assertIs(type(tree), list)
        self.assertIs(is_least_tree(table, tree), True)
        odd = tuple(place for place in range(many) if sum(place in tie for tie in tree) % 2)
        self.assertIs(type(pairs), list)
        self.assertEqual(pairs, sorted(pairs))
        self.assertEqual(sorted(place for pair in pairs for place in pair), list(odd))
        for pair in pairs:
            self.assertIs(type(pair), tuple)
            self.assertIn(pair, all_ties(many))
        paired = sum(table[i][j] for i, j in pairs)
        self.assertEqual(paired, min(sum(table[i][j] for i, j in other) for other in all_pairings(odd)))
        both = sum(table[i][j] for i, j in tree) + paired
        self.assertLessEqual(round_length(table, round_), both)
        return round_

    def tables(self):
        found = straight_tables(2)
        for many in range(2, 9):
            for seed in range(8):
                found.append(straightened(made_even(many, 9 if seed % 2 else 10 ** 6, seed)))
        return found

    def test_straight_tables(self):
        for table in self.tables():
            self.check(table)

    def test_at_most_one_and_a_half_times_any_round(self):
        for table in self.tables():
            self.assertLessEqual(2 * round_length(table, self.check(table)), 3 * shortest_length(table))

    def test_at_most_one_and_a_half_times_the_worth(self):
        for table in self.tables():
            if 3 <= len(table) <= 6:
                worth = Fraction(*shares(table)[0])
                self.assertLessEqual(2 * round_length(table, by_pairs(table)[0]), 3 * worth)

    def test_two_places(self):
        for way in (0, 7, 10 ** 6):
            self.assertEqual(by_pairs(((0, way), (way, 0))), ((0, 1), [(0, 1)], [(0, 1)]))

    def test_on_a_line(self):
        for many in range(2, 9):
            round_, tree, pairs = by_pairs(on_a_line(many))
            self.assertEqual(tree, [(at, at + 1) for at in range(many - 1)])
            self.assertEqual(pairs, [(0, many - 1)])
            self.assertEqual(round_length(on_a_line(many), round_), 10 * (many - 1))

    def test_new_lists_each_time(self):
        table = straightened(made_even(6, 9, 1))
        kept = by_pairs(table)
        kept = (kept[0], list(kept[1]), list(kept[2]))
        round_, tree, pairs = by_pairs(table)
        tree.clear()
        pairs.append("changed")
        self.assertEqual(by_pairs(table), kept)

    def test_not_even_first(self):
        for table in uneven_tables() + [made(many, 10 ** 6, many) for many in range(3, 9)]:
            with self.assertRaises(NotEven):
                by_pairs(table)

    def test_then_not_straight(self):
        for many in range(3, 9):
            table = same_ways(many, 5)
            for i, k in ((0, 1), (many - 2, many - 1), (0, many - 1)):
                bent = with_way(with_way(table, i, k, 11), k, i, 11)
                with self.assertRaises(NotStraight):
                    by_pairs(bent)
                self.check(with_way(with_way(table, i, k, 10), k, i, 10))

    def test_then_too_few(self):
        with self.assertRaises(TooFew):
            by_pairs(((0,),))


if __name__ == "__main__":
    unittest.main()
