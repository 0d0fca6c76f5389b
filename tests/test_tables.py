"""Stage 1: tables [4], rounds and walks [5]."""

import unittest

from homeround.tables import is_even, is_round, is_straight, is_table, length, shortened, walk
from tests.samples import (
    HUGE, STRANGE, all_rounds, least_walk, made, made_even, on_a_line, one_ring, round_length, same_ways,
    sample_tables, walk_length, with_way,
)

MILLION = 10 ** 6
NO_NUMBERS = (True, False, None, "", "1", (), (1,), [], [1])


class IsTable(unittest.TestCase):
    def test_tables_of_one_to_eight_places(self):
        for table in sample_tables():
            self.assertIs(is_table(table), True, table)

    def test_too_many_and_no_places(self):
        self.assertIs(is_table(()), False)
        for many in (9, 10, 20):
            self.assertIs(is_table(same_ways(many, 1)), False)

    def test_least_and_greatest_lengths(self):
        for many in range(2, 9):
            table = same_ways(many, 7)
            for i, j in ((0, 1), (1, 0), (many - 1, 0), (0, many - 1)):
                for way in (0, 1, MILLION - 1, MILLION):
                    self.assertIs(is_table(with_way(table, i, j, way)), True)
                for way in (-1, MILLION + 1, HUGE, -HUGE):
                    self.assertIs(is_table(with_way(table, i, j, way)), False)

    def test_own_places_have_0(self):
        for many in range(1, 9):
            for own in range(many):
                for way in (1, -1, MILLION, HUGE, -HUGE) + NO_NUMBERS:
                    self.assertIs(is_table(with_way(same_ways(many, 7), own, own, way)), False)

    def test_other_things_for_lengths(self):
        for many in range(2, 9):
            for way in NO_NUMBERS:
                self.assertIs(is_table(with_way(same_ways(many, 1), 0, many - 1, way)), False)
                self.assertIs(is_table(with_way(same_ways(many, 1), many - 1, 0, way)), False)

    def test_lists_for_tuples(self):
        for many in range(1, 9):
            table = same_ways(many, 1)
            self.assertIs(is_table(list(table)), False)
            for at in range(many):
                self.assertIs(is_table(table[:at] + (list(table[at]),) + table[at + 1:]), False)

    def test_a_row_more_or_fewer(self):
        for many in range(1, 8):
            table = same_ways(many, 1)
            self.assertIs(is_table(table[1:]), False)
            self.assertIs(is_table(table[:-1]), False)
            self.assertIs(is_table(table + table[-1:]), False)
            self.assertIs(is_table(table + ((),)), False)
            self.assertIs(is_table(table + ((0,) * (many + 1),)), False)

    def test_a_length_more_or_fewer(self):
        for many in range(1, 9):
            table = same_ways(many, 1)
            for at in range(many):
                for row in (table[at] + (1,), table[at] + (0,), table[at][:-1], (), None, 0, "0" * many):
                    self.assertIs(is_table(table[:at] + (row,) + table[at + 1:]), False)

    def test_strange_things(self):
        for thing in STRANGE:
            self.assertIs(is_table(thing), False, thing)
            self.assertIs(is_table((thing,)), False, thing)
            self.assertIs(is_table((thing, thing)), False, thing)

    def test_the_least_table(self):
        self.assertIs(is_table(((0,),)), True)
        self.assertIs(is_table(((1,),)), False)
        self.assertIs(is_table(((0, 0), (0, 0))), True)


class IsEven(unittest.TestCase):
    def test_one_length_by_one_decides(self):
        for many in range(1, 9):
            table = made_even(many, 50, many)
            self.assertIs(is_even(table), True)
            for i in range(many):
                for j in range(many):
                    if i != j:
                        self.assertIs(is_even(with_way(table, i, j, table[i][j] + 1)), False)
                        self.assertIs(is_even(with_way(table, i, j, table[i][j] - 1)), False)

    def test_against_a_look_at_all_pairs(self):
        for table in sample_tables():
            turned = tuple(zip(*table))
            self.assertIs(is_even(table), table == turned)


class IsStraight(unittest.TestCase):
    def test_one_and_two_places_always(self):
        for table in (((0,),), ((0, 0), (0, 0)), ((0, 0), (9, 0)), ((0, MILLION), (0, 0))):
            self.assertIs(is_straight(table), True)

    def test_a_way_longer_by_one(self):
        for many in range(3, 9):
            for i in range(many):
                for k in range(many):
                    if i != k:
                        self.assertIs(is_straight(with_way(same_ways(many, 10), i, k, 20)), True)
                        self.assertIs(is_straight(with_way(same_ways(many, 10), i, k, 21)), False)

    def test_a_way_shorter_by_one(self):
        for many in range(3, 9):
            table = on_a_line(many)
            self.assertIs(is_straight(table), True)
            for i in range(many - 1):
                self.assertIs(is_straight(with_way(table, i, i + 1, 4)), False)
                self.assertIs(is_straight(with_way(table, i + 1, i, 4)), False)

    def test_one_detour_alone_decides(self):
        # Of all detours from 0 to 2 the one by 1 alone is short enough to count.
        table = ((0, 5, 11, 9), (9, 0, 5, 9), (9, 9, 0, 9), (9, 9, 9, 0))
        self.assertIs(is_straight(table), False)
        self.assertIs(is_straight(with_way(table, 0, 2, 10)), True)

    def test_against_a_look_at_all_threes(self):
        for table in sample_tables():
            ways = range(len(table))
            broken = [1 for i in ways for j in ways for k in ways if table[i][k] > table[i][j] + table[j][k]]
            self.assertIs(is_straight(table), not broken)


class IsRound(unittest.TestCase):
    def test_all_rounds(self):
        for many in range(1, 7):
            for round_ in all_rounds(many):
                self.assertIs(is_round(made(many, 9, 1), round_), True)
        self.assertIs(is_round(made(8, 9, 1), (0, 7, 1, 6, 2, 5, 3, 4)), True)

    def test_rounds_of_another_number_of_places(self):
        for many in range(1, 9):
            for other in range(1, 9):
                self.assertIs(is_round(made(many, 9, 1), tuple(range(other))), many == other)

    def test_a_place_twice_left_out_or_one_more(self):
        table = made(4, 9, 1)
        for thing in (
            (0, 1, 2, 2), (0, 0, 2, 3), (0, 1, 1, 3), (0, 1, 2), (0, 2, 3), (0, 1, 2, 3, 3), (0, 1, 2, 3, 0),
            (0, 1, 2, 3, 4), (0, 1, 2, 4), (0, 1, 2, -1), (0, 1, 2, HUGE), (0, -3, -2, -1), (0,), (),
        ):
            self.assertIs(is_round(table, thing), False, thing)

    def test_0_not_first(self):
        for thing in ((1, 0, 2, 3), (1, 2, 3, 0), (3, 2, 1, 0), (1, 2, 3, 4), (1, 2, 3)):
            self.assertIs(is_round(made(4, 9, 1), thing), False, thing)

    def test_truths_for_numbers(self):
        self.assertIs(is_round(made(1, 9, 1), (False,)), False)
        self.assertIs(is_round(made(2, 9, 1), (0, True)), False)
        self.assertIs(is_round(made(2, 9, 1), (False, 1)), False)
        self.assertIs(is_round(made(3, 9, 1), (0, 2, True)), False)

    def test_other_things(self):
        table = made(3, 9, 1)
        for thing in STRANGE + ([0, 1, 2], "012", ((0, 1, 2),), ([0], 1, 2), (0, "1", 2), (0, 1, (2,)), (0, None, 2)):
            self.assertIs(is_round(table, thing), False, thing)
        self.assertIs(is_round(((0,),), [0]), False)

    def test_strange_things_of_one_place(self):
        for thing in STRANGE:
            self.assertIs(is_round(((0,),), thing), False, thing)


class Length(unittest.TestCase):
    def test_one_and_two_places(self):
        self.assertEqual(length(((0,),), (0,)), 0)
        self.assertEqual(length(((0, 3), (4, 0)), (0, 1)), 7)

    def test_the_way_home_counts_and_each_way_as_it_is_gone(self):
        table = ((0, 1, 20), (300, 0, 4000), (50000, 600000, 0))
        self.assertEqual(length(table, (0, 1, 2)), 54001)
        self.assertEqual(length(table, (0, 2, 1)), 600320)

    def test_against_a_sum_of_the_ways(self):
        for table in sample_tables(6):
            for round_ in all_rounds(len(table)):
                self.assertEqual(length(table, round_), round_length(table, round_))


class Shortened(unittest.TestCase):
    def check(self, table):
        short = shortened(table)
        self.assertIs(is_table(short), True)
        self.assertIs(is_straight(short), True)
        self.assertEqual(shortened(short), short)
        for one in range(len(table)):
            for other in range(len(table)):
                if one != other:
                    self.assertEqual(short[one][other], least_walk(table, one, other), (table, one, other))

    def test_against_all_walks(self):
        for table in sample_tables(6):
            self.check(table)

    def test_of_seven_and_eight_places(self):
        for table in (made(7, 30, 5), made_even(7, 30, 5), one_ring(7), made(8, 2, 1)):
            self.check(table)

    def test_a_long_chain(self):
        # From 0 to 7 by all other places: each nearer way is of length 1, all others of a million.
        table = same_ways(8, MILLION)
        for at in range(7):
            table = with_way(table, at, at + 1, 1)
        self.assertEqual(shortened(table)[0], (0, 1, 2, 3, 4, 5, 6, 7))
        self.assertEqual(shortened(table)[7], (MILLION,) * 7 + (0,))
        self.assertEqual(walk(table, 0, 7), (0, 1, 2, 3, 4, 5, 6, 7))

    def test_a_detour_by_one(self):
        self.assertEqual(shortened(((0, 2, 6), (9, 0, 3), (9, 9, 0))), ((0, 2, 5), (9, 0, 3), (9, 9, 0)))
        self.assertEqual(shortened(((0, 2, 5), (9, 0, 3), (9, 9, 0))), ((0, 2, 5), (9, 0, 3), (9, 9, 0)))

    def test_a_straight_one_stays(self):
        for table in sample_tables() + [on_a_line(8, 0), on_a_line(8, 142857)]:
            if is_straight(table):
                self.assertEqual(shortened(table), table)


class Walk(unittest.TestCase):
    def check(self, table):
        short = shortened(table)
        for one in range(len(table)):
            for other in range(len(table)):
                if one != other:
                    gone = walk(table, one, other)
                    self.assertIsInstance(gone, tuple)
                    self.assertEqual((gone[0], gone[-1]), (one, other))
                    self.assertEqual(len(set(gone)), len(gone))
                    self.assertLessEqual(set(gone), set(range(len(table))))
                    self.assertEqual(walk_length(table, gone), short[one][other])

    def test_all_sample_tables(self):
        for table in sample_tables():
            self.check(table)

    def test_ways_of_length_0(self):
        for many in range(2, 9):
            for seed in range(12):
                self.check(made(many, 1, seed))
                self.check(made_even(many, 2, seed))

    def test_two_places(self):
        self.assertEqual(walk(((0, 3), (4, 0)), 0, 1), (0, 1))
        self.assertEqual(walk(((0, 3), (4, 0)), 1, 0), (1, 0))


if __name__ == "__main__":
    unittest.main()
