"""The whole [3]: how bounds, rounds and the shortest round stand to one another."""

import unittest
from fractions import Fraction

from homeround.desk import Desk
from homeround.drawn import tree_or_four, tree_round
from homeround.falling import falling_or_four, pyramid
from homeround.hung import hung
from homeround.moves import bettered, is_settled
from homeround.nexts import nexts
from homeround.puttings import cheapest, far, near, nearest, put_in
from homeround.rings import ring_or_four, ring_order
from homeround.rounds import by_pairs, walked
from homeround.shares import best_prices, shares
from homeround.shortest import do_show, shortest
from homeround.tables import is_round, length
from homeround.texts import show_table
from homeround.trees import least_tree
from homeround.webs import closed, parting, pulled, web_round, web_table
from tests.samples import (
    even_tables, falling_tables, is_table_even, made_even, prism, ring_tables, sample_tables, sample_webs,
    straight_tables, straightened, tree_tables,
)

PRICES = ((1, 2), (-3, 1), (0, 1), (7, 5), (10 ** 6, 1), (-1, 7), (2, 3), (5, 1))


def fit_tables():
    found = even_tables(3, 6) + straight_tables(3, 6) + [prism(3, 2, 40), prism(2, 1, 3)]
    for many in range(3, 7):
        for seed in range(10):
            table = made_even(many, 30, seed)
            found += [table, straightened(table)]
    return found


def from_home(order):
    """The round from 0 on along an order."""
    at = order.index(0)
    return order[at:] + order[:at]


class Whole(unittest.TestCase):
    def test_no_round_told_is_shorter_than_the_shortest(self):
        for table in sample_tables() + straight_tables():
            least, round_, floors = shortest(table)
            self.assertIs(do_show(table, floors, least), True)
            told = [round_, nearest(table), cheapest(table), near(table), far(table), pyramid(table)[1]]
            told.append(put_in(table, tuple(range(len(table))))[-1])
            if is_table_even(table):
                told.append(walked(table, least_tree(table)[1]))
            if table in straight_tables() and len(table) > 1:
                told.append(by_pairs(table)[0])
            for other in list(told):
                told.extend(bettered(table, other))
            for other in told:
                self.assertIs(is_round(table, other), True)
                self.assertGreaterEqual(length(table, other), least)

    def test_no_round_is_shorter_than_a_bound(self):
        for table in sample_tables() + straight_tables():
            least = shortest(table)[0]
            if len(table) > 1:
                self.assertLessEqual(nexts(table)[0], least)
            if len(table) > 2 and is_table_even(table):
                self.assertLessEqual(Fraction(*hung(table, PRICES[:len(table)])[0]), least)
                self.assertLessEqual(Fraction(*hung(table, PRICES[-len(table):])[0]), least)

    def test_the_worth(self):
        below = []
        for table in fit_tables():
            least = shortest(table)[0]
            worth = Fraction(*shares(table)[0])
            self.assertLessEqual(worth, least)
            self.assertEqual(hung(table, best_prices(table))[0], shares(table)[0])
            self.assertLessEqual(Fraction(*hung(table, PRICES[:len(table)])[0]), worth)
            if len(table) <= 5:
                self.assertEqual(worth, least)
            elif worth < least:
                below.append(table)
        self.assertTrue(below)

    def test_rounds_told_at_once(self):
        found = set()
        shaped = [table for many, drawn, table in tree_tables()] + [table for table, order in ring_tables()]
        for table in even_tables() + straight_tables() + shaped + falling_tables():
            least = shortest(table)[0]
            order = tuple(range(len(table)))
            told = []
            if falling_or_four(table) == ("falling",):
                told.append(pyramid(table)[1])
                found.add("falling")
            even = is_table_even(table)
            if even and tree_or_four(table)[0] == "tree":
                told.append(tree_round(table)[1])
                self.assertEqual(tree_round(table)[0], least)
                found.add("tree")
            if even and ring_or_four(table, order) == ("ring",):
                told.append(order)
                found.add("ring")
            if even and len(table) < 7 and ring_order(table) is not None:
                told.append(from_home(ring_order(table)))
                found.add("order")
            for round_ in told:
                self.assertIs(is_round(table, round_), True)
                self.assertEqual(length(table, round_), least)
                self.assertIs(is_settled(table, round_), True)
        self.assertEqual(found, {"tree", "ring", "order", "falling"})

    def test_a_desk_tells_at_once_the_shortest(self):
        words = set()
        for table in sample_tables() + falling_tables() + [table for table, order in ring_tables()]:
            desk = Desk()
            desk.say("table " + show_table(table))
            word, *number = desk.say("round at once").split(" ")
            self.assertEqual(number, [] if word == "no" else [desk.say("shortest")])
            words.add(word)
        self.assertEqual(words, {"tree", "ring", "falling", "no"})

    def test_webs(self):
        words = set()
        for web in sample_webs():
            if web[0] > 2:
                last, steps = closed(web)
                word, found = web_round(web)
                words.add(word)
                self.assertEqual(web_round(last)[0], word)
                if word == "round":
                    self.assertIsNone(parting(web))
                    for round_ in (found, pulled(web, steps, web_round(last)[1]), pulled(web, steps, found)):
                        self.assertIs(is_round(web_table(web), round_), True)
                        self.assertEqual(length(web_table(web), round_), 0)
                else:
                    self.assertIs(do_show(web_table(web), found, 1), True)
                    self.assertGreater(shortest(web_table(web))[0], 0)
        self.assertEqual(words, {"round", "none"})

    def test_straight_tables(self):
        for table in fit_tables():
            if table == straightened(table):
                least = shortest(table)[0]
                worth = Fraction(*shares(table)[0])
                self.assertLessEqual(2 * least, 3 * worth)
                self.assertLessEqual(2 * length(table, by_pairs(table)[0]), 3 * worth)
                for make in (cheapest, near):
                    self.assertLessEqual(length(table, make(table)), 2 * least_tree(table)[0])


if __name__ == "__main__":
    unittest.main()
