"""Stage 10: ring tables [20]."""

import unittest
from itertools import combinations, permutations

from homeround.errors import NotEven, TooMany
from homeround.rings import ring_or_four, ring_order
from homeround.shortest import shortest
from homeround.tables import is_round, length
from tests.samples import (
    both_ways, drawn_orders, even_tables, made_even, on_a_line, ring_tables, same_ways, straight_tables, tree_tables,
    uneven_tables, with_one_otherwise,
)


def breaks(table, four):
    i, j, k, l = four
    crossing = table[i][k] + table[j][l]
    return table[i][j] + table[k][l] > crossing or table[i][l] + table[j][k] > crossing


def really_ring(table, order):
    return not any(breaks(table, four) for four in combinations(order, 4))


def along(order):
    """The round from 0 on along an order."""
    at = order.index(0)
    return order[at:] + order[:at]


def part_of(table, places):
    return tuple(tuple(table[i][j] for j in places) for i in places)


def even_samples(most=8):
    found = even_tables(1, most) + straight_tables(1, most)
    for seed, (table, order) in enumerate(ring_tables(1, most)):
        found += [table] + with_one_otherwise(table, seed)
    return found


class RingOrFour(unittest.TestCase):
    def check(self, table, order):
        told = ring_or_four(table, order)
        self.assertIs(type(told), tuple)
        if really_ring(table, order):
            self.assertEqual(told, ("ring",))
            return "ring"
        word, four = told
        self.assertEqual(word, "four")
        self.assertIs(type(four), tuple)
        for place in four:
            self.assertIs(type(place), int)
        self.assertIn(four, list(combinations(order, 4)))
        self.assertTrue(breaks(table, four), (table, order, four))
        return word

    def test_tables_and_orders(self):
        words = []
        for table in even_samples():
            many = len(table)
            for order in drawn_orders(many, 8) + [tuple(range(many)), tuple(range(many))[::-1]]:
                words.append(self.check(table, order))
        self.assertGreater(words.count("ring"), 200)
        self.assertGreater(words.count("four"), 200)

    def test_ring_tables(self):
        for table, order in ring_tables():
            self.assertEqual(self.check(table, order), "ring")
            # Turned on or about it is the same ring.
            for at in range(len(order)):
                self.assertEqual(self.check(table, order[at:] + order[:at]), "ring")
                self.assertEqual(self.check(table, order[at::-1] + order[:at:-1]), "ring")

    def test_ring_tables_with_one_length_otherwise(self):
        words = []
        for seed, (table, order) in enumerate(ring_tables(4)):
            for time in range(4):
                for other in with_one_otherwise(table, 10 * seed + time):
                    words.append(self.check(other, order))
        self.assertEqual(set(words), {"ring", "four"})

    def test_all_orders_of_few_places(self):
        for many in (1, 2, 3, 4, 5):
            for table in (made_even(many, 3, 7), made_even(many, 9, 8), on_a_line(many), same_ways(many, 2)):
                for order in permutations(range(many)):
                    self.check(table, order)

    def test_each_half_of_what_breaks(self):
        # Ways of 5 all over: no four break any order.
        table = same_ways(4, 5)
        self.assertEqual(ring_or_four(table, (0, 1, 2, 3)), ("ring",))
        # Either of two opposite ways longer by one breaks the order, and each crossing one holds it.
        for i, j in ((0, 1), (2, 3), (0, 3), (1, 2)):
            self.assertEqual(ring_or_four(both_ways(table, i, j, 6), (0, 1, 2, 3)), ("four", (0, 1, 2, 3)))
            for k, l in ((0, 2), (1, 3)):
                held = both_ways(both_ways(table, i, j, 6), k, l, 6)
                self.assertEqual(ring_or_four(held, (0, 1, 2, 3)), ("ring",))
                self.assertEqual(ring_or_four(both_ways(table, k, l, 4), (0, 1, 2, 3)), ("four", (0, 1, 2, 3)))

    def test_each_four_is_looked_at(self):
        # One way that is longer by one breaks just the fours in which it does not cross.
        for many in (5, 6, 7, 8):
            order = drawn_orders(many, 1)[0]
            for first, second in combinations(range(many), 2):
                table = both_ways(same_ways(many, 5), order[first], order[second], 6)
                self.assertEqual(self.check(table, order), "four")
        alone = set()
        for seed in range(400):
            table = made_even(5, 9, seed)
            broken = [four for four in combinations(range(5), 4) if breaks(table, four)]
            if len(broken) == 1:
                self.assertEqual(ring_or_four(table, (0, 1, 2, 3, 4)), ("four", broken[0]))
                alone.add(broken[0])
        self.assertEqual(len(alone), 5)

    def test_at_most_three_places(self):
        for table in even_tables(1, 3):
            for order in permutations(range(len(table))):
                self.assertEqual(ring_or_four(table, order), ("ring",))

    def test_refused(self):
        for table in uneven_tables():
            with self.assertRaises(NotEven):
                ring_or_four(table, tuple(range(len(table))))

    def test_the_round_along_the_order_is_shortest(self):
        for table, order in ring_tables():
            self.assertIs(is_round(table, along(order)), True)
            self.assertEqual(length(table, along(order)), shortest(table)[0])
            for size in range(1, len(order)):
                for places in list(combinations(order, size))[::3]:
                    part = part_of(table, places)
                    self.assertEqual(length(part, tuple(range(size))), shortest(part)[0])


class RingOrder(unittest.TestCase):
    def check(self, table):
        many = len(table)
        told = ring_order(table)
        there_is = any(really_ring(table, order) for order in permutations(range(many)))
        if told is None:
            self.assertFalse(there_is, table)
        else:
            self.assertIs(type(told), tuple)
            for place in told:
                self.assertIs(type(place), int)
            self.assertEqual(sorted(told), list(range(many)))
            self.assertTrue(really_ring(table, told), (table, told))
            self.assertEqual(ring_or_four(table, told), ("ring",))
            self.assertEqual(length(table, along(told)), shortest(table)[0])
        return told

    def test_tables(self):
        orders = [self.check(table) for table in even_samples(6)]
        self.assertGreater(orders.count(None), 10)
        self.assertGreater(len(orders) - orders.count(None), 50)

    def test_ring_tables(self):
        for table, order in ring_tables(1, 6):
            self.assertIsNotNone(self.check(table))

    def test_one_order_alone(self):
        # A ring with all weights above 0 has no order but its own, turned on or about.
        for many in (4, 5, 6):
            for order in drawn_orders(many, 5):
                ring = tuple(
                    tuple(
                        abs(i - j) * (many - abs(i - j))
                        for j in [order.index(place) for place in range(many)]
                    )
                    for i in [order.index(place) for place in range(many)]
                )
                own = along(order)
                self.assertIn(self.check(ring), (own, own[:1] + own[:0:-1]))

    def test_tables_of_trees_are_ring_tables(self):
        for many, drawn, table in tree_tables(1, 6):
            self.assertIsNotNone(self.check(table))

    def test_drawn_tables(self):
        orders = []
        for many in (4, 5):
            for seed in range(30):
                orders.append(self.check(made_even(many, 9, seed)))
        for seed in range(8):
            orders.append(self.check(made_even(6, 9, seed)))
        self.assertIn(None, orders)

    def test_four_places_always_have_one(self):
        for seed in range(40):
            self.assertIsNotNone(self.check(made_even(4, 5, seed)))

    def test_refused(self):
        for table in uneven_tables():
            with self.assertRaises(NotEven):
                ring_order(table)
        for many in (7, 8):
            for table in even_tables(many, many):
                with self.assertRaises(TooMany):
                    ring_order(table)
        for table in even_tables(6, 6):
            ring_order(table)


if __name__ == "__main__":
    unittest.main()
