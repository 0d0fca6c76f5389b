"""Stage 4: trees hung at 0, with prices [9]."""

import unittest
from fractions import Fraction
from itertools import combinations

from homeround.errors import NotEven, TooFew
from homeround.hung import hung
from tests.samples import (
    HUGE, all_ties, all_trees, do_tie_together, even_tables, made_even, numbers, on_a_line, prism, same_ways,
    shortest_length, uneven_tables,
)

BOTTOMS = (1, 1, 2, 3, 4, 12, 97, 10 ** 20, 10 ** 20 + 39, 2 ** 60, HUGE)


def told(value):
    return (value.numerator, value.denominator)


def made_prices(many, seed, top):
    """Prices from below 0 to above it, whole, broken, and of great bottoms."""
    source = numbers(seed)
    found = []
    for place in range(many):
        bottom = BOTTOMS[next(source) % len(BOTTOMS)] if seed % 3 else 1
        numerator = next(source) * next(source) * next(source) % (2 * top * bottom + 1) - top * bottom
        found.append(told(Fraction(numerator, bottom)))
    return tuple(found)


def no_prices(many):
    return ((0, 1),) * many


def counted(table, prices, ties):
    """What ties count, and twice all prices."""
    worths = [Fraction(*price) for price in prices]
    return sum(table[i][j] - worths[i] - worths[j] for i, j in ties) + 2 * sum(worths)


def all_hung(many):
    """All ties hung at 0 of many places."""
    return [
        sorted(tree + [(0, one), (0, other)])
        for tree in all_trees(tuple(range(1, many)))
        for one, other in combinations(range(1, many), 2)
    ]


class Hung(unittest.TestCase):
    def check(self, table, prices):
        many = len(table)
        answer = hung(table, prices)
        self.assertIs(type(answer), tuple)
        bound, ties = answer
        self.assertIs(type(bound), tuple)
        self.assertEqual([type(part) for part in bound], [int, int])
        self.assertIs(type(ties), list)
        self.assertEqual(ties, sorted(set(ties)))
        self.assertEqual(len(ties), many)
        for tie in ties:
            self.assertIs(type(tie), tuple)
            self.assertIn(tie, all_ties(many))
        self.assertEqual(len([tie for tie in ties if 0 in tie]), 2)
        self.assertTrue(do_tie_together(range(1, many), [tie for tie in ties if 0 not in tie]))
        self.assertEqual(bound, told(Fraction(counted(table, prices, ties))))
        return Fraction(*bound)

    def check_least(self, table, prices):
        bound = self.check(table, prices)
        self.assertEqual(bound, min(counted(table, prices, ties) for ties in all_hung(len(table))), (table, prices))

    def test_against_all_ties(self):
        for seed, table in enumerate(even_tables(3, 5)):
            for top in (1, 9, 10 ** 20):
                self.check_least(table, made_prices(len(table), seed, top))
            self.check_least(table, no_prices(len(table)))

    def test_against_all_ties_of_six_places(self):
        for seed, table in enumerate((made_even(6, 9, 1), prism(2, 3, 9), same_ways(6, 5))):
            self.check_least(table, made_prices(6, seed, 4))

    def test_no_bound_is_above_the_shortest_round(self):
        for seed, table in enumerate(even_tables(3, 6)):
            least = shortest_length(table)
            for top in (1, 30, 10 ** 6, 10 ** 20):
                self.assertLessEqual(self.check(table, made_prices(len(table), seed + top, top)), least)

    def test_seven_and_eight_places(self):
        for seed, table in enumerate(even_tables(7, 8)):
            for top in (3, 10 ** 6):
                self.check(table, made_prices(len(table), seed, top))
        for many in (7, 8):
            for seed in range(2):
                table = made_even(many, 20, seed)
                self.assertLessEqual(self.check(table, made_prices(many, seed, 5)), shortest_length(table))

    def test_without_prices(self):
        self.assertEqual(hung(same_ways(3, 5), no_prices(3)), ((15, 1), [(0, 1), (0, 2), (1, 2)]))
        # Two ties at 0 and the chain of the others: 5 and 10, and 5 for each other step.
        for many in range(3, 9):
            chain = [(at, at + 1) for at in range(1, many - 1)]
            found = hung(on_a_line(many), no_prices(many))
            self.assertEqual(found, ((15 + 5 * (many - 2), 1), [(0, 1), (0, 2)] + chain))

    def test_known_prices(self):
        table = ((0, 4, 6), (4, 0, 9), (6, 9, 0))
        ties = [(0, 1), (0, 2), (1, 2)]
        # Of three places all ties are hung, and whatever the prices the bound is the round.
        for prices in (((1, 2), (1, 3), (-1, 6)), ((HUGE, 1), (-1, HUGE), (0, 1)), no_prices(3)):
            self.assertEqual(hung(table, prices), ((19, 1), ties))
        table = same_ways(4, 2)
        self.assertEqual(hung(table, ((0, 1), (1, 2), (0, 1), (0, 1)))[0], (15, 2))
        self.assertEqual(hung(table, ((5, 1), (0, 1), (0, 1), (0, 1)))[0], (8, 1))
        self.assertEqual(hung(table, ((0, 1), (-1, 3), (0, 1), (0, 1)))[0], (23, 3))

    def test_the_price_of_0_changes_nothing(self):
        for seed, table in enumerate(even_tables(3, 8)):
            prices = made_prices(len(table), seed, 9)
            bound = hung(table, prices)[0]
            for price in ((0, 1), (7, 3), (-HUGE, 1), (1, HUGE)):
                self.assertEqual(hung(table, (price,) + prices[1:])[0], bound)

    def test_a_new_list_each_time(self):
        table = made_even(5, 9, 1)
        first = hung(table, no_prices(5))
        kept = (first[0], list(first[1]))
        first[1].clear()
        self.assertEqual(hung(table, no_prices(5)), kept)

    def test_not_even_ahead_of_too_few(self):
        for table in uneven_tables():
            with self.assertRaises(NotEven):
                hung(table, no_prices(len(table)))
            with self.assertRaises(NotEven):
                hung(table, made_prices(len(table), 1, 9))

    def test_too_few(self):
        for table in (((0,),), ((0, 0), (0, 0)), ((0, 10 ** 6), (10 ** 6, 0))):
            for prices in (no_prices(len(table)), made_prices(len(table), 1, 9)):
                with self.assertRaises(TooFew):
                    hung(table, prices)


if __name__ == "__main__":
    unittest.main()
