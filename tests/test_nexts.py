"""Stage 3: nexts, outs and ins, circles [7]."""

import unittest
from itertools import permutations

from homeround.errors import TooFew
from homeround.nexts import are_outs_ins, circles, nexts
from tests.samples import (
    HUGE, all_nexts, all_rounds, made, made_even, numbers, round_length, same_ways, sample_tables, with_way,
)

ONE = ((0,),)
TWO = ((0, 3), (4, 0))


def least_sum(table):
    return min(sum(table[at][place] for at, place in enumerate(some)) for some in all_nexts(len(table)))


def really_are(table, outs, ins, number):
    """Whether outs and ins are such and come to the number, word by word as the document says it."""
    for i in range(len(table)):
        for j in range(len(table)):
            if i != j and outs[i] + ins[j] > table[i][j]:
                return False
    return sum(outs + ins) == number


def changed(some, at, more):
    return some[:at] + (some[at] + more,) + some[at + 1:]


def tables_of_two_or_more(most=8):
    return [table for table in sample_tables(most) if len(table) > 1]


class Nexts(unittest.TestCase):
    def check(self, table):
        many = len(table)
        told = nexts(table)
        self.assertIs(type(told), tuple)
        total, follow, outs, ins = told
        for some in (follow, outs, ins):
            self.assertIs(type(some), tuple)
            self.assertEqual(len(some), many)
        for number in (total,) + follow + outs + ins:
            self.assertIs(type(number), int)
        self.assertEqual(sorted(follow), list(range(many)))
        self.assertFalse([at for at in range(many) if follow[at] == at])
        self.assertEqual(sum(table[at][place] for at, place in enumerate(follow)), total)
        self.assertEqual(total, least_sum(table), table)
        self.assertTrue(really_are(table, outs, ins, total), told)
        self.assertIs(are_outs_ins(table, outs, ins, total), True)

    def test_all_sample_tables(self):
        for table in tables_of_two_or_more():
            self.check(table)

    def test_more_tables(self):
        for many in range(2, 7):
            for seed in range(25):
                self.check(made(many, 1, seed))
                self.check(made(many, 7, seed))
                self.check(made(many, 10 ** 6, seed))
                self.check(made_even(many, 12, seed))

    def test_seven_and_eight_places(self):
        for seed in range(4):
            self.check(made(7, 9, seed))
            self.check(made(8, 9, seed))
            self.check(made_even(8, 60, seed))

    def test_two_places(self):
        self.assertEqual(nexts(TWO)[:2], (7, (1, 0)))
        self.assertEqual(nexts(((0, 0), (0, 0)))[:2], (0, (1, 0)))

    def test_not_its_own_though_0_stands_there(self):
        for many in range(2, 9):
            self.assertEqual(nexts(same_ways(many, 10 ** 6))[0], many * 10 ** 6)

    def test_known_ones(self):
        # Of two circles of two places each way is of length 1; all others are far.
        table = ((0, 9, 1, 9), (9, 0, 9, 1), (1, 9, 0, 9), (9, 1, 9, 0))
        self.assertEqual(nexts(table)[:2], (4, (2, 3, 0, 1)))
        table = ((0, 9, 1, 9), (1, 0, 9, 9), (9, 9, 0, 1), (9, 1, 9, 0))
        self.assertEqual(nexts(table)[:2], (4, (2, 0, 3, 1)))

    def test_the_way_about_counts(self):
        table = ((0, 1, 9), (9, 0, 1), (1, 9, 0))
        self.assertEqual(nexts(table)[:2], (3, (1, 2, 0)))
        self.assertEqual(nexts(tuple(zip(*table)))[:2], (3, (2, 0, 1)))

    def test_one_place_is_too_few(self):
        with self.assertRaises(TooFew):
            nexts(ONE)

    def test_no_round_is_shorter_and_one_circle_is_a_shortest_round(self):
        seen = set()
        for seed in range(40):
            table = made(2 + seed % 5, 9, seed)
            total, follow = nexts(table)[:2]
            least = min(round_length(table, round_) for round_ in all_rounds(len(table)))
            self.assertLessEqual(total, least)
            found = circles(follow)
            if len(found) == 1:
                self.assertEqual(round_length(table, found[0]), least)
            seen.add(len(found) == 1)
        self.assertEqual(seen, {True, False})


class OutsIns(unittest.TestCase):
    def agree(self, table, outs, ins, number):
        told = are_outs_ins(table, outs, ins, number)
        self.assertIs(told, really_are(table, outs, ins, number), (table, outs, ins, number))
        return told

    def test_the_number_more_or_less(self):
        for table in tables_of_two_or_more():
            total, follow, outs, ins = nexts(table)
            for number in (total + 1, total - 1, 2 * total + 1, -total - 1, HUGE, -HUGE):
                self.assertIs(are_outs_ins(table, outs, ins, number), False)

    def test_one_number_more_or_less(self):
        for table in tables_of_two_or_more():
            total, follow, outs, ins = nexts(table)
            for at in range(len(table)):
                for more, number, answer in ((1, total + 1, False), (1, total, False), (-1, total - 1, True),
                                             (-1, total, False), (-HUGE, total - HUGE, True), (HUGE, total, False)):
                    self.assertIs(are_outs_ins(table, changed(outs, at, more), ins, number), answer)
                    self.assertIs(are_outs_ins(table, outs, changed(ins, at, more), number), answer)

    def test_one_moved_from_an_out_to_an_in(self):
        answers = set()
        for table in tables_of_two_or_more(5):
            total, follow, outs, ins = nexts(table)
            for i in range(len(table)):
                for j in range(len(table)):
                    for more in (1, -1):
                        answers.add(self.agree(table, changed(outs, i, more), changed(ins, j, -more), total))
        self.assertEqual(answers, {True, False})

    def test_all_outs_against_all_ins(self):
        for table in tables_of_two_or_more():
            total, follow, outs, ins = nexts(table)
            for more in (1, -1, HUGE, -HUGE):
                up = tuple(out + more for out in outs)
                down = tuple(into - more for into in ins)
                self.assertIs(are_outs_ins(table, up, down, total), True)
                self.assertIs(are_outs_ins(table, up, down, total + 1), False)

    def test_each_way_counts_by_itself(self):
        for many in range(2, 9):
            fives, noughts = (5,) * many, (0,) * many
            for i in range(many):
                for j in range(many):
                    if i != j:
                        table = with_way(same_ways(many, 9), i, j, 5)
                        self.assertIs(are_outs_ins(table, fives, noughts, 5 * many), True)
                        self.assertIs(are_outs_ins(table, noughts, fives, 5 * many), True)
                        table = with_way(table, i, j, 4)
                        self.assertIs(are_outs_ins(table, fives, noughts, 5 * many), False)
                        self.assertIs(are_outs_ins(table, noughts, fives, 5 * many), False)
                        # From i to j it is the out of i and the in of j that count.
                        self.assertIs(are_outs_ins(table, changed(fives, i, -1), noughts, 5 * many - 1), True)
                        self.assertIs(are_outs_ins(table, noughts, changed(fives, j, -1), 5 * many - 1), True)
                        self.assertIs(are_outs_ins(table, changed(fives, j, -1), noughts, 5 * many - 1), False)
                        self.assertIs(are_outs_ins(table, noughts, changed(fives, i, -1), 5 * many - 1), False)

    def test_own_places_do_not_count(self):
        self.assertIs(are_outs_ins(TWO, (3, 4), (0, 0), 7), True)
        self.assertIs(are_outs_ins(TWO, (0, 0), (4, 3), 7), True)
        self.assertIs(are_outs_ins(TWO, (HUGE, 0), (4, 3 - HUGE), 7), True)
        self.assertIs(are_outs_ins(TWO, (HUGE, 1), (4, 3 - HUGE), 8), False)
        for many in range(2, 9):
            self.assertIs(are_outs_ins(same_ways(many, 6), (6,) * many, (0,) * many, 6 * many), True)

    def test_numbers_below_0(self):
        self.assertIs(are_outs_ins(TWO, (-5, -5), (-5, -5), -20), True)
        self.assertIs(are_outs_ins(TWO, (-5, -5), (-5, -5), -19), False)
        self.assertIs(are_outs_ins(TWO, (-1, -1), (4, 4), 6), True)
        self.assertIs(are_outs_ins(TWO, (-1, -1), (4, 5), 7), False)

    def test_any_numbers_against_the_words(self):
        answers = []
        for seed in range(600):
            source = numbers(seed)
            table = made(2 + seed % 4, 6, seed)
            outs = tuple(next(source) % 6 - 1 for row in table)
            ins = tuple(next(source) % 5 - 3 for row in table)
            answers.append(self.agree(table, outs, ins, sum(outs + ins)))
            self.agree(table, outs, ins, sum(outs + ins) + next(source) % 3 - 1)
        self.assertEqual(set(answers), {True, False})

    def test_one_place_is_too_few(self):
        for outs, ins, number in (((0,), (0,), 0), ((1,), (5,), 6), ((-1,), (0,), 3), ((HUGE,), (0,), 0)):
            with self.assertRaises(TooFew):
                are_outs_ins(ONE, outs, ins, number)


class Circles(unittest.TestCase):
    def check(self, some):
        found = circles(some)
        self.assertIs(type(found), list)
        for circle in found:
            self.assertIs(type(circle), tuple)
            self.assertTrue(circle)
            self.assertEqual(circle[0], min(circle))
            for at in range(len(circle)):
                self.assertEqual(some[circle[at]], circle[(at + 1) % len(circle)])
        firsts = [circle[0] for circle in found]
        self.assertEqual(firsts, sorted(firsts))
        self.assertEqual(sorted(place for circle in found for place in circle), list(range(len(some))))

    def test_all_tuples_of_one_to_six_places(self):
        for many in range(1, 7):
            for some in permutations(range(many)):
                self.check(some)

    def test_seven_and_eight_places(self):
        for many in (7, 8):
            for some in list(permutations(range(many)))[::37]:
                self.check(some)

    def test_known_ones(self):
        self.assertEqual(circles((0,)), [(0,)])
        self.assertEqual(circles((1, 0)), [(0, 1)])
        self.assertEqual(circles((0, 1, 2)), [(0,), (1,), (2,)])
        self.assertEqual(circles((1, 2, 0)), [(0, 1, 2)])
        self.assertEqual(circles((2, 0, 1)), [(0, 2, 1)])
        self.assertEqual(circles((3, 1, 4, 0, 2)), [(0, 3), (1,), (2, 4)])
        self.assertEqual(circles((7, 6, 5, 4, 3, 2, 1, 0)), [(0, 7), (1, 6), (2, 5), (3, 4)])
        self.assertEqual(circles((2, 4, 6, 1, 3, 5, 7, 0)), [(0, 2, 6, 7), (1, 4, 3), (5,)])

    def test_a_new_list_each_time(self):
        some = (1, 0, 2)
        first = circles(some)
        first.append("changed")
        first[0] = None
        self.assertEqual(circles(some), [(0, 1), (2,)])


if __name__ == "__main__":
    unittest.main()
