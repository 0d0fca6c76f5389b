"""Stage 11: pyramids and falling tables [21]."""

import unittest
from itertools import combinations, product

from homeround.falling import falling_or_four, pyramid
from homeround.shortest import shortest
from tests.samples import (
    all_rounds, even_tables, falling_table, falling_tables, is_table_even, made, on_a_line, one_ring, round_length,
    same_ways, sample_tables, with_one_otherwise, with_way,
)


def is_pyramid(round_):
    """Whether a round rises to its greatest place, and falls from there."""
    top = round_.index(max(round_))
    rising, falling = round_[:top + 1], round_[top:]
    return list(rising) == sorted(rising) and list(falling) == sorted(falling, reverse=True)


def all_pyramids(many):
    return [round_ for round_ in all_rounds(many) if is_pyramid(round_)]


def breaks(table, four):
    i, k, j, l = four
    return table[i][j] + table[k][l] > table[i][l] + table[k][j]


def all_fours(many):
    pairs = list(combinations(range(many), 2))
    return [(i, k, j, l) for (i, k), (j, l) in product(pairs, pairs)]


def with_one_way_otherwise(table):
    """The tables in which one way, there alone, is longer or shorter by one."""
    return [
        with_way(table, i, j, table[i][j] + more)
        for i in range(len(table)) for j in range(len(table)) for more in (1, -1)
        if i != j and 0 <= table[i][j] + more <= 10 ** 6
    ]


class Pyramid(unittest.TestCase):
    def check(self, table):
        told = pyramid(table)
        self.assertIs(type(told), tuple)
        least, round_ = told
        self.assertIs(type(least), int)
        self.assertIs(type(round_), tuple)
        self.assertEqual(sorted(round_), list(range(len(table))))
        self.assertEqual(round_[0], 0)
        self.assertTrue(is_pyramid(round_), round_)
        self.assertEqual(round_length(table, round_), least)
        self.assertEqual(least, min(round_length(table, other) for other in all_pyramids(len(table))))
        return told

    def test_how_many_pyramids(self):
        self.assertEqual([len(all_pyramids(many)) for many in range(1, 9)], [1, 1, 2, 4, 8, 16, 32, 64])

    def test_tables(self):
        for table in sample_tables() + even_tables() + falling_tables():
            self.check(table)

    def test_each_pyramid_may_be_the_shortest(self):
        for many in range(2, 7):
            for round_ in all_pyramids(many):
                table = same_ways(many, 3)
                for one, other in zip(round_, round_[1:] + round_[:1]):
                    table = with_way(table, one, other, 1)
                self.assertEqual(self.check(table), (many, round_))

    def test_one_to_three_places(self):
        self.assertEqual(pyramid(((0,),)), (0, (0,)))
        self.assertEqual(pyramid(((0, 3), (4, 0))), (7, (0, 1)))
        self.assertEqual(pyramid(one_ring(3)), (3, (0, 1, 2)))
        self.assertEqual(pyramid(tuple(zip(*one_ring(3)))), (3, (0, 2, 1)))

    def test_no_pyramid_is_the_shortest(self):
        table = same_ways(5, 9)
        round_ = (0, 2, 1, 4, 3)
        for one, other in zip(round_, round_[1:] + round_[:1]):
            table = with_way(table, one, other, 1)
        self.assertEqual(shortest(table)[0], 5)
        self.assertGreater(self.check(table)[0], 5)


class FallingOrFour(unittest.TestCase):
    def check(self, table):
        told = falling_or_four(table)
        self.assertIs(type(told), tuple)
        broken = [four for four in all_fours(len(table)) if breaks(table, four)]
        if not broken:
            self.assertEqual(told, ("falling",))
            self.assertEqual(pyramid(table)[0], shortest(table)[0])
            return "falling"
        word, four = told
        self.assertEqual(word, "four")
        self.assertIs(type(four), tuple)
        for place in four:
            self.assertIs(type(place), int)
        self.assertIn(four, broken)
        return "four"

    def test_falling_tables(self):
        for table in falling_tables():
            self.assertEqual(self.check(table), "falling")
        self.assertTrue([table for table in falling_tables() if not is_table_even(table)])

    def test_one_length_otherwise(self):
        words = []
        for table in falling_tables(2, 6):
            for other in with_one_way_otherwise(table):
                words.append(self.check(other))
            for seed in range(4):
                for other in with_one_otherwise(table, seed):
                    words.append(self.check(other))
        self.assertGreater(words.count("falling"), 50)
        self.assertGreater(words.count("four"), 50)

    def test_tables(self):
        words = [self.check(table) for table in sample_tables() + even_tables()]
        self.assertEqual(set(words), {"falling", "four"})

    def test_all_small_tables(self):
        words = []
        for a, b, c, d, e, f in product(range(3), repeat=6):
            words.append(self.check(((0, a, b), (c, 0, d), (e, f, 0))))
        self.assertEqual(set(words), {"falling", "four"})

    def test_each_four_is_looked_at(self):
        alone = set()
        for many in (3, 4):
            for seed in range(60):
                for other in with_one_way_otherwise(falling_table(many, 3, seed)):
                    broken = [four for four in all_fours(many) if breaks(other, four)]
                    if len(broken) == 1:
                        self.assertEqual(falling_or_four(other), ("four", broken[0]))
                        alone.add(broken[0])
        # Fours of neighbours are the only ones that break alone.
        neighbours = {
            (i, i + 1, j, j + 1) for many in (3, 4) for i in range(many - 1) for j in range(many - 1) if i != j
        }
        self.assertLessEqual(neighbours, alone)

    def test_own_places_count(self):
        # 01 and 12 come to more than 02 and the own way of 1, which is 0.
        self.assertEqual(falling_or_four(((0, 1, 1), (1, 0, 1), (1, 1, 0)))[0], "four")
        self.assertEqual(falling_or_four(((0, 1, 2), (1, 0, 1), (2, 1, 0))), ("falling",))
        self.assertEqual(falling_or_four(((0, 1, 2), (1, 0, 1), (1, 1, 0)))[0], "four")

    def test_one_and_two_places(self):
        self.assertEqual(falling_or_four(((0,),)), ("falling",))
        self.assertEqual(falling_or_four(((0, 3), (4, 0))), ("falling",))
        self.assertEqual(falling_or_four(on_a_line(8)), ("falling",))

    def test_drawn_tables(self):
        for many in range(3, 9):
            for seed in range(6):
                self.check(made(many, 4, seed))


if __name__ == "__main__":
    unittest.main()
