"""Stage 9: drawn trees and their tables [18], [19]."""

import unittest
from copy import deepcopy
from fractions import Fraction
from itertools import product
from math import gcd

from homeround.drawn import is_drawn, table_of, tree_or_four, tree_round
from homeround.errors import NoTable, NotEven
from homeround.shortest import shortest
from tests.samples import (
    HUGE, STRANGE, do_tie_together, even_tables, grown_tree, made_even, numbers, on_a_line, round_length, same_ways,
    straight_tables, tree_tables, uneven_tables, way_along, with_one_otherwise,
)

HALF = (1, 2)
STAR = ((0, 4, HALF), (1, 4, (3, 2)), (2, 4, (5, 2)), (3, 4, (7, 2)))
STAR_TABLE = ((0, 2, 3, 4), (2, 0, 4, 5), (3, 4, 0, 6), (4, 5, 6, 0))
QUARTET = ((0, 4, (1, 1)), (1, 4, (2, 1)), (2, 5, (3, 1)), (3, 5, (4, 1)), (4, 5, (5, 1)))


def is_int(thing):
    return type(thing) is int


def is_length(thing):
    if type(thing) is not tuple or len(thing) != 2 or not all(map(is_int, thing)):
        return False
    top, bottom = thing
    return top >= 0 and bottom >= 1 and gcd(top, bottom) == 1


def really_drawn(thing, many):
    """Whether a thing is a drawn tree, word by word as the document says it."""
    if type(thing) is not tuple:
        return False
    all_of_it = len(thing) + 1
    if not many <= all_of_it <= 14:
        return False
    for tie in thing:
        if type(tie) is not tuple or len(tie) != 3 or not is_int(tie[0]) or not is_int(tie[1]):
            return False
        if not 0 <= tie[0] < tie[1] < all_of_it or not is_length(tie[2]):
            return False
    in_order = all(one < other for one, other in zip(thing, thing[1:]))
    return in_order and do_tie_together(range(all_of_it), [tie[:2] for tie in thing])


def star(many, way=(1, 1)):
    return tuple((0, place, way) for place in range(1, many))


def chain(many, way=(1, 1)):
    return tuple((place, place + 1, way) for place in range(many - 1))


def exchanged(thing, at, part):
    return thing[:at] + (part,) + thing[at + 1:]


class IsDrawn(unittest.TestCase):
    def check(self, thing, many):
        kept = deepcopy(thing)
        expected = really_drawn(thing, many)
        self.assertIs(is_drawn(thing, many), expected, (thing, many))
        self.assertEqual(thing, kept)
        return expected

    def test_grown_trees(self):
        for many, drawn, table in tree_tables():
            self.assertIs(is_drawn(drawn, many), True)
            for other in range(1, 9):
                self.assertIs(self.check(drawn, other), other <= len(drawn) + 1)

    def test_one_place(self):
        self.assertIs(is_drawn((), 1), True)
        for many in range(2, 9):
            self.assertIs(is_drawn((), many), False)

    def test_how_many_places(self):
        for make in (star, chain):
            for size in range(1, 17):
                for many in range(1, 9):
                    self.assertIs(is_drawn(make(size), many), many <= size <= 14)

    def test_no_number_of_places_of_a_table(self):
        for many in (-1, 0, 9):
            self.assertIs(is_drawn(chain(12), many), False)

    def test_ties_otherwise(self):
        for many, drawn, table in tree_tables(2):
            for at, (i, j, way) in enumerate(drawn):
                self.check(drawn[:at] + drawn[at + 1:], 1)
                self.assertIs(is_drawn(drawn[:at] + drawn[at:at + 1] + drawn[at:], many), False)
                self.assertIs(is_drawn(exchanged(drawn, at, (j, i, way)), many), False)
                self.assertIs(is_drawn(exchanged(drawn, at, (i, i, way)), many), False)
                for other in range(len(drawn) + 2):
                    for new in ((min(i, other), max(i, other), way), (min(j, other), max(j, other), way)):
                        self.check(tuple(sorted(exchanged(drawn, at, new))), many)
                        self.check(exchanged(drawn, at, new), many)

    def test_a_tie_put_to_it(self):
        for size in range(2, 8):
            self.assertIs(is_drawn(chain(size), 2), True)
            self.assertIs(is_drawn(tuple(sorted(chain(size) + ((0, size - 1, (2, 1)),))), 2), False)

    def test_a_circle(self):
        # As many ties as there must be, but one place hangs at nothing.
        self.assertIs(is_drawn(((0, 1, HALF), (0, 2, HALF), (1, 2, HALF)), 3), False)
        self.assertIs(is_drawn(((0, 1, HALF), (0, 2, HALF), (1, 2, HALF)), 4), False)
        self.assertIs(is_drawn(((1, 2, HALF), (1, 3, HALF), (2, 3, HALF)), 3), False)
        self.assertIs(is_drawn(((0, 1, HALF), (0, 1, (1, 1)), (2, 3, HALF)), 3), False)
        self.assertIs(is_drawn(((0, 1, HALF), (2, 3, HALF), (2, 4, HALF), (3, 4, HALF)), 3), False)

    def test_not_sorted(self):
        for many, drawn, table in tree_tables(3):
            self.assertIs(is_drawn(drawn[::-1], many), False)
            for at in range(len(drawn) - 1):
                self.assertIs(is_drawn(drawn[:at] + (drawn[at + 1], drawn[at]) + drawn[at + 2:], many), False)

    def test_lengths(self):
        right = [(0, 1), (1, 1), (5, 3), (HUGE, 1), (1, HUGE), (HUGE, HUGE - 1), (10 ** 6 + 1, 1)]
        wrong = [
            (-1, 1), (-1, 2), (2, 2), (0, 2), (6, 4), (0, 0), (1, 0), (1, -1), (-1, -1), (HUGE, HUGE), 1, 0, -1, True,
            False, None, "1", (1,), (1, 2, 3), (), [1, 2], (True, 1), (1, True), (False, 1), ("1", 1), (1, "1"),
            ((1, 2),), (1, None), ((1, 1), 1), [(1, 2)],
        ]
        for expected, things in ((True, right), (False, wrong)):
            for thing in things:
                for drawn in (chain(4), star(5), QUARTET, STAR):
                    for at, (i, j, way) in enumerate(drawn):
                        self.assertIs(is_drawn(exchanged(drawn, at, (i, j, thing)), 3), expected)

    def test_places(self):
        for thing in (-1, 6, 7, True, False, None, "0", "1", (0,), [1], HUGE, -HUGE, (1, 1)):
            for at, (i, j, way) in enumerate(QUARTET):
                self.assertIs(is_drawn(exchanged(QUARTET, at, (thing, j, way)), 4), False)
                self.assertIs(is_drawn(exchanged(QUARTET, at, (i, thing, way)), 4), False)
        self.assertIs(is_drawn(((0, 1, HALF),), 2), True)
        self.assertIs(is_drawn(((False, 1, HALF),), 2), False)
        self.assertIs(is_drawn(((0, True, HALF),), 2), False)

    def test_a_list_for_a_tuple(self):
        for at, tie in enumerate(QUARTET):
            self.assertIs(is_drawn(exchanged(QUARTET, at, list(tie)), 4), False)
            self.assertIs(is_drawn(exchanged(QUARTET, at, tie[:2]), 4), False)
            self.assertIs(is_drawn(exchanged(QUARTET, at, tie + (0,)), 4), False)
            self.assertIs(is_drawn(exchanged(QUARTET, at, tie[:2] + (list(tie[2]),)), 4), False)
        self.assertIs(is_drawn(list(QUARTET), 4), False)
        self.assertIs(is_drawn([], 1), False)

    def test_strange_things(self):
        for thing in STRANGE:
            for many in range(1, 9):
                self.assertIs(self.check(thing, many), thing == () and many == 1)
            self.assertIs(is_drawn((thing,), 2), False)
            self.assertIs(is_drawn((thing, thing), 2), False)
            self.assertIs(is_drawn(((0, 1, HALF), thing), 2), False)
            self.assertIs(is_drawn((thing, (1, 2, HALF)), 2), False)

    def test_the_thing_stays_as_it_was(self):
        for thing in ([(1, 2, HALF), (0, 1, HALF)], ((1, 2, HALF), [0, 1, [1, 2]]), [[], [[0]]]):
            self.assertIs(self.check(thing, 3), False)


class TableOf(unittest.TestCase):
    def check(self, drawn, many):
        told = table_of(drawn, many)
        expected = tuple(tuple(way_along(drawn, i, j) for j in range(many)) for i in range(many))
        self.assertEqual(told, expected)
        self.assertIs(type(told), tuple)
        for row in told:
            self.assertIs(type(row), tuple)
            for way in row:
                self.assertIs(type(way), int)
        return told

    def refuse(self, drawn, many):
        with self.assertRaises(NoTable):
            table_of(drawn, many)

    def test_grown_trees(self):
        for many, drawn, table in tree_tables():
            self.assertEqual(self.check(drawn, many), table)
            for fewer in range(1, many):
                self.check(drawn, fewer)

    def test_by_hand(self):
        self.assertEqual(table_of((), 1), ((0,),))
        self.assertEqual(table_of(STAR, 4), STAR_TABLE)
        self.assertEqual(table_of(((0, 1, (7, 1)),), 2), ((0, 7), (7, 0)))
        self.assertEqual(table_of(QUARTET, 4), ((0, 3, 9, 10), (3, 0, 10, 11), (9, 10, 0, 7), (10, 11, 7, 0)))

    def test_unlike_and_great_bottoms(self):
        self.check(((0, 3, (1, 3)), (1, 3, (2, 3)), (2, 3, (5, 3))), 2)
        self.refuse(((0, 3, (1, 3)), (1, 3, (2, 3)), (2, 3, (5, 3))), 3)
        great = HUGE + 7
        drawn = ((0, 3, (1, great)), (1, 3, (great - 1, great)), (2, 3, (2 * great - 1, great)))
        self.assertEqual(self.check(drawn, 2), ((0, 1), (1, 0)))
        self.refuse(drawn, 3)
        # One third, one sixth and one half come to one.
        drawn = ((0, 3, (1, 3)), (1, 2, HALF), (2, 3, (1, 6)))
        self.assertEqual(table_of(drawn, 2), ((0, 1), (1, 0)))
        self.refuse(drawn, 3)
        drawn = ((0, 2, (1, HUGE)), (1, 3, (HUGE - 3, HUGE)), (2, 3, (1, HUGE // 2)))
        self.assertEqual(table_of(drawn, 2), ((0, 1), (1, 0)))

    def test_not_whole(self):
        for drawn in (chain(5, HALF), star(4, (1, 3)), chain(3, (7, 5)), star(2, (1, HUGE)), chain(8, (2, 7))):
            self.refuse(drawn, 2)
        self.assertEqual(table_of(star(3, (0, 1)), 3), same_ways(3, 0))
        # From 0 each way is whole, but not between the others.
        self.refuse(((0, 4, HALF), (1, 4, HALF), (2, 4, (3, 2)), (3, 4, (1, 1))), 4)
        self.refuse(((0, 1, (1, 1)), (1, 3, HALF), (2, 3, (1, 3))), 3)

    def test_the_longest_way(self):
        top = 10 ** 6
        self.assertEqual(table_of(((0, 1, (top, 1)),), 2), ((0, top), (top, 0)))
        self.refuse(((0, 1, (top + 1, 1)),), 2)
        self.refuse(((0, 1, (2 * top + 1, 2)),), 2)
        half = (top // 2, 1)
        self.assertEqual(table_of(chain(3, half), 3), on_a_line(3, top // 2))
        self.refuse(((0, 1, half), (1, 2, (top // 2 + 1, 1))), 3)
        # The way between 1 and 2 is too long, though none from 0 is.
        self.refuse(((0, 1, half), (0, 2, (top // 2 + 1, 1))), 3)
        self.refuse(((0, 1, (HUGE, 1)),), 2)

    def test_only_the_first_places_count(self):
        drawn = ((0, 1, (3, 1)), (1, 2, (HUGE, 1)), (2, 3, (1, 7)))
        self.assertEqual(table_of(drawn, 2), ((0, 3), (3, 0)))
        self.assertEqual(table_of(drawn, 1), ((0,),))
        self.refuse(drawn, 3)
        self.refuse(drawn, 4)

    def test_a_tree_that_goes_up_and_down(self):
        # Places that hang at later ones, and ties that stand ahead of those which they hang by.
        drawn = ((0, 6, (2, 1)), (1, 5, (1, 1)), (2, 4, (3, 1)), (3, 6, (4, 1)), (4, 6, (1, 1)), (5, 6, (6, 1)))
        self.assertIs(is_drawn(drawn, 4), True)
        for many in range(1, 8):
            self.check(drawn, many)

    def test_the_greatest_tree(self):
        for seed in range(6):
            drawn = grown_tree(8, 6, 50, seed)
            self.assertEqual(len(drawn), 13)
            self.check(drawn, 8)


def breaks(table, four):
    i, j, k, l = four
    both = table[i][j] + table[k][l]
    return both > table[i][k] + table[j][l] and both > table[i][l] + table[j][k]


def really_trees(table):
    return not any(breaks(table, four) for four in product(range(len(table)), repeat=4))


def even_samples():
    """Tables of trees, these with one length otherwise, and drawn ones."""
    found = even_tables() + straight_tables()
    for seed, (many, drawn, table) in enumerate(tree_tables()):
        found += [table] + with_one_otherwise(table, seed)
    return found


class TreeOrFour(unittest.TestCase):
    def check(self, table):
        told = tree_or_four(table)
        self.assertIs(type(told), tuple)
        word, found = told
        self.assertIs(type(found), tuple)
        if word == "tree":
            self.assertTrue(really_drawn(found, len(table)), (table, found))
            self.assertIs(is_drawn(found, len(table)), True)
            self.assertEqual(table_of(found, len(table)), table)
            ways = tuple(tuple(way_along(found, i, j) for j in range(len(table))) for i in range(len(table)))
            self.assertEqual(ways, table)
        else:
            self.assertEqual(word, "four")
            self.assertEqual(len(found), 4)
            for place in found:
                self.assertIs(type(place), int)
                self.assertIn(place, range(len(table)))
            self.assertTrue(breaks(table, found), (table, found))
        self.assertEqual(word == "tree", really_trees(table), table)
        return word

    def test_tables(self):
        words = [self.check(table) for table in even_samples()]
        self.assertGreater(words.count("four"), 60)
        self.assertGreater(words.count("tree"), 60)

    def test_tables_of_trees(self):
        for many, drawn, table in tree_tables():
            self.assertEqual(self.check(table), "tree")

    def test_small_lengths(self):
        seen = []
        for many in (3, 4, 5):
            for seed in range(80):
                seen.append(self.check(made_even(many, 3, seed)))
        self.assertEqual(set(seen), {"tree", "four"})

    def test_all_small_tables(self):
        seen = []
        for a, b, c in product(range(5), repeat=3):
            seen.append(self.check(((0, a, b), (a, 0, c), (b, c, 0))))
        for a, b, c, d, e, f in product(range(3), repeat=6):
            seen.append(self.check(((0, a, b, c), (a, 0, d, e), (b, d, 0, f), (c, e, f, 0))))
        self.assertEqual(set(seen), {"tree", "four"})

    def test_by_hand(self):
        self.assertEqual(tree_or_four(((0,),)), ("tree", ()))
        self.assertEqual(tree_or_four(((0, 3), (3, 0))), ("tree", ((0, 1, (3, 1)),)))
        self.assertEqual(self.check(STAR_TABLE), "tree")
        # A way that is longer than two others: four places, two of them like.
        self.assertEqual(self.check(((0, 1, 5), (1, 0, 1), (5, 1, 0))), "four")
        # A ring of four places, straight, but no tree's.
        self.assertEqual(self.check(((0, 1, 2, 1), (1, 0, 1, 2), (2, 1, 0, 1), (1, 2, 1, 0))), "four")
        # Each way 1: a star of halves.
        for many in range(3, 9):
            self.assertEqual(self.check(same_ways(many, 1)), "tree")

    def test_places_at_one_spot(self):
        for many in range(1, 9):
            self.assertEqual(self.check(same_ways(many, 0)), "tree")
        for many, drawn, table in tree_tables(1, 4):
            twice = tuple(tuple(table[i // 2][j // 2] for j in range(2 * many)) for i in range(2 * many))
            self.assertEqual(self.check(twice), "tree")
            apart = tuple(tuple(table[i % many][j % many] for j in range(2 * many)) for i in range(2 * many))
            self.assertEqual(self.check(apart), "tree")

    def test_great_lengths(self):
        self.assertEqual(self.check(same_ways(8, 10 ** 6)), "tree")
        self.assertEqual(self.check(same_ways(8, 10 ** 6 - 1)), "tree")
        self.assertEqual(self.check(on_a_line(8, 10 ** 6 // 7)), "tree")

    def test_refused(self):
        for table in uneven_tables():
            with self.assertRaises(NotEven):
                tree_or_four(table)


class TreeRound(unittest.TestCase):
    def check(self, table):
        told = tree_round(table)
        self.assertIs(type(told), tuple)
        least, round_ = told
        self.assertIs(type(least), int)
        self.assertIs(type(round_), tuple)
        self.assertEqual(round_[0], 0)
        self.assertEqual(sorted(round_), list(range(len(table))))
        self.assertEqual(round_length(table, round_), least)
        self.assertEqual(least, shortest(table)[0])

    def test_tables_of_trees(self):
        for many, drawn, table in tree_tables():
            self.check(table)

    def test_twice_the_sum_of_a_tree_without_other_ends(self):
        for many in range(2, 9):
            for seed in range(5):
                drawn = grown_tree(many, 0, 30, seed)
                total = sum(Fraction(*way) for i, j, way in drawn)
                self.assertEqual(tree_round(table_of(drawn, many))[0], 2 * total)
        self.assertEqual(tree_round(STAR_TABLE)[0], 16)

    def test_all_even_tables(self):
        for table in even_samples():
            if really_trees(table):
                self.check(table)
            else:
                with self.assertRaises(NoTable):
                    tree_round(table)

    def test_one_and_two_places(self):
        self.assertEqual(tree_round(((0,),)), (0, (0,)))
        self.assertEqual(tree_round(((0, 4), (4, 0))), (8, (0, 1)))

    def test_refused(self):
        for table in uneven_tables():
            with self.assertRaises(NotEven):
                tree_round(table)
        # Not even, and no tree's table either: NotEven goes first.
        with self.assertRaises(NotEven):
            tree_round(((0, 1, 9), (1, 0, 1), (8, 1, 0)))
        with self.assertRaises(NoTable):
            tree_round(((0, 1, 9), (1, 0, 1), (9, 1, 0)))

    def test_shuffled(self):
        for many, drawn, table in tree_tables(3):
            source = numbers(many)
            order = sorted(range(many), key=lambda place: next(source))
            self.check(tuple(tuple(table[i][j] for j in order) for i in order))


if __name__ == "__main__":
    unittest.main()
