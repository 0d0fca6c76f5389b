"""Stage 2: the shortest round, its floors, and how many are as short [6]."""

import unittest
from copy import deepcopy
from math import factorial

from homeround.shortest import do_show, how_many, shortest
from homeround.tables import is_round, length
from tests.samples import (
    HUGE, STRANGE, all_rounds, made, made_even, numbers, on_a_line, one_ring, really_show, round_length, same_ways,
    sample_tables,
)

TWO = ((0, 3), (4, 0))
TWO_FLOORS = [((0,), 0, 7), ((0, 1), 1, 4)]
THREE = ((0, 1, 5), (5, 0, 2), (3, 5, 0))
THREE_FLOORS = [((0,), 0, 6), ((0, 1), 1, 5), ((0, 2), 2, 1), ((0, 1, 2), 2, 3)]


def all_lengths(table):
    return [round_length(table, round_) for round_ in all_rounds(len(table))]


class Shortest(unittest.TestCase):
    def check(self, table):
        told = shortest(table)
        self.assertIsInstance(told, tuple)
        least, round_, floors = told
        self.assertEqual(least, min(all_lengths(table)), table)
        self.assertIs(is_round(table, round_), True)
        self.assertEqual(round_length(table, round_), least)
        self.assertEqual(length(table, round_), least)
        self.assertIsInstance(floors, list)
        self.check_form(table, floors)
        self.assertTrue(really_show(table, floors, least))
        self.assertIs(do_show(table, floors, least), True)
        self.assertIs(do_show(table, floors, least + 1), False)

    def check_form(self, table, floors):
        for floor in floors:
            self.assertIsInstance(floor, tuple)
            some, last, number = floor
            self.assertIsInstance(some, tuple)
            self.assertEqual(list(some), sorted(set(some)))
            self.assertLessEqual(set(some), set(range(len(table))))
            self.assertIn(0, some)
            self.assertIn(last, some)
            for whole in some + (last, number):
                self.assertIs(type(whole), int)

    def test_all_sample_tables(self):
        for table in sample_tables():
            self.check(table)

    def test_more_tables(self):
        for many in range(2, 7):
            for seed in range(15):
                self.check(made(many, 6, seed))
                self.check(made_even(many, 40, seed))

    def test_one_and_two_places(self):
        least, round_, floors = shortest(((0,),))
        self.assertEqual((least, round_), (0, (0,)))
        self.assertIs(do_show(((0,),), floors, 0), True)
        self.assertIs(do_show(((0,),), floors, 1), False)
        self.assertEqual(shortest(TWO)[:2], (7, (0, 1)))

    def test_one_round_alone(self):
        for many in range(3, 9):
            self.assertEqual(shortest(one_ring(many))[:2], (many, tuple(range(many))))

    def test_the_way_about_counts(self):
        table = ((0, 1, 9, 9), (9, 0, 1, 9), (9, 9, 0, 1), (1, 9, 9, 0))
        self.assertEqual(shortest(table)[:2], (4, (0, 1, 2, 3)))
        turned = tuple(zip(*table))
        self.assertEqual(shortest(turned)[:2], (4, (0, 3, 2, 1)))

    def test_nothing_is_refused_somewhat_beyond_the_bounds(self):
        self.check(made(9, 1000, 4))
        self.check(same_ways(4, 10 ** 6 + 1))


class HowMany(unittest.TestCase):
    def test_against_all_rounds(self):
        for table in sample_tables():
            lengths = all_lengths(table)
            self.assertEqual(how_many(table), lengths.count(min(lengths)), table)

    def test_more_tables(self):
        for many in range(3, 7):
            for seed in range(15):
                for table in (made(many, 2, seed), made_even(many, 3, seed)):
                    lengths = all_lengths(table)
                    self.assertEqual(how_many(table), lengths.count(min(lengths)), table)

    def test_all_rounds_as_short(self):
        for many in range(1, 9):
            for way in (0, 1, 10 ** 6):
                self.assertEqual(how_many(same_ways(many, way)), factorial(many - 1))

    def test_one_and_two_places(self):
        self.assertEqual(how_many(((0,),)), 1)
        self.assertEqual(how_many(TWO), 1)

    def test_turned_about_counts_twice(self):
        self.assertEqual(how_many(same_ways(3, 5)), 2)
        self.assertEqual(how_many(((0, 1, 9, 1), (1, 0, 1, 9), (9, 1, 0, 1), (1, 9, 1, 0))), 2)
        self.assertEqual(how_many(one_ring(4)), 1)


class DoShow(unittest.TestCase):
    def agree(self, table, floors, number):
        kept = deepcopy(floors)
        answer = do_show(table, floors, number)
        self.assertIs(answer, really_show(table, floors, number), (table, floors, number))
        self.assertEqual(floors, kept)
        return answer

    def test_two_places_by_hand(self):
        for number, answer in ((7, True), (6, True), (0, True), (-1, True), (-HUGE, True), (8, False), (HUGE, False)):
            self.assertIs(do_show(TWO, TWO_FLOORS, number), answer, number)
        for floors, number, answer in (
            ([((0,), 0, 3)], 3, True), ([((0,), 0, 3)], 4, False), ([((0,), 0, 4)], 4, False),
            ([((0,), 0, 4)], 0, False), ([((0,), 0, 4), ((0, 1), 1, 1)], 4, True),
            ([((0,), 0, 4), ((0, 1), 1, 0)], 4, False), ([((0,), 0, 7), ((0, 1), 1, 3)], 7, False),
            ([((0,), 0, 8), ((0, 1), 1, 5)], 8, False), ([((0,), 0, 3), ((0, 1), 1, 5)], 3, False),
            ([((0,), 0, 3), ((0, 1), 1, 5), ((0, 1), 1, 4)], 3, False),
        ):
            self.assertIs(do_show(TWO, floors, number), answer, (floors, number))

    def test_one_place_by_hand(self):
        for floors, number, answer in (
            ([((0,), 0, 0)], 0, True), ([((0,), 0, 0)], 1, False), ([((0,), 0, 1)], 1, False),
            ([((0,), 0, 1)], 0, False), ([((0,), 0, 0), ((0,), 0, 1)], 0, False), ([((0,), 0, -1)], 0, False),
            ([((0,), 0, -1)], -1, True), ([((0,), 0, -HUGE)], -HUGE, True), ([((0,), 0, -1), ((0,), 0, 0)], 0, True),
        ):
            self.assertIs(do_show(((0,),), floors, number), answer, (floors, number))

    def test_no_floors_show_nothing(self):
        for table in (((0,),), TWO, THREE, same_ways(8, 0)):
            for number in (0, 1, -1, -HUGE, HUGE):
                self.assertIs(do_show(table, [], number), False)

    def test_without_the_first_floor(self):
        for number in (0, -1, -HUGE, 1):
            self.assertIs(do_show(TWO, [((0, 1), 1, 4)], number), False)
            self.assertIs(do_show(TWO, [((0, 1), 0, 0)], number), False)

    def test_three_places_by_hand(self):
        self.assertIs(do_show(THREE, THREE_FLOORS, 6), True)
        self.assertIs(do_show(THREE, THREE_FLOORS[::-1], 6), True)
        self.assertIs(do_show(THREE, THREE_FLOORS, 7), False)
        # A floor nobody asks for must hold as well, and one of 0 or less always does.
        self.assertIs(do_show(THREE, THREE_FLOORS + [((0, 1, 2), 1, 5)], 6), True)
        self.assertIs(do_show(THREE, THREE_FLOORS + [((0, 1, 2), 1, 6)], 6), False)
        self.assertIs(do_show(THREE, THREE_FLOORS + [((0, 1, 2), 0, 1)], 6), False)
        self.assertIs(do_show(THREE, THREE_FLOORS + [((0, 1, 2), 0, 0)], 6), True)
        self.assertIs(do_show(THREE, THREE_FLOORS + [((0, 1), 0, -HUGE)], 6), True)
        self.assertIs(do_show(THREE, THREE_FLOORS + [((0, 1), 0, 5)], 6), True)
        self.assertIs(do_show(THREE, THREE_FLOORS + [((0, 1), 0, 9)], 6), False)
        self.assertIs(do_show(THREE, THREE_FLOORS + [((0,), 0, HUGE)], 6), False)

    def test_every_place_left_must_hold(self):
        table = same_ways(4, 2)
        held = [((0,), 0, 4), ((0, 1), 1, 2), ((0, 2), 2, 2), ((0, 3), 3, 2)]
        self.assertIs(do_show(table, held, 4), True)
        for at in (1, 2, 3):
            self.assertIs(do_show(table, held[:at] + held[at + 1:], 4), False)

    def test_the_floor_that_holds_ends_where_the_way_does(self):
        # (0, 1) with last 0 is not where the way from 0 to 1 leads.
        self.assertIs(do_show(TWO, [((0,), 0, 4), ((0, 1), 0, 0), ((0, 1), 1, 1)], 4), True)
        self.assertIs(do_show(same_ways(3, 2), [((0,), 0, 4), ((0, 1), 0, 2), ((0, 2), 2, 2)], 4), False)

    def test_ways_count_as_they_are_gone(self):
        table = ((0, 1), (9, 0))
        self.assertIs(do_show(table, [((0,), 0, 10), ((0, 1), 1, 9)], 10), True)
        self.assertIs(do_show(table, [((0,), 0, 9)], 9), False)

    def test_numbers_changed_left_out_and_twice(self):
        answers = []
        for table in sample_tables(5) + [made(6, 9, 2), made_even(6, 9, 3), on_a_line(6)]:
            least, round_, floors = shortest(table)
            for at, (some, last, number) in enumerate(floors):
                ahead, behind = floors[:at], floors[at + 1:]
                for other in (number - 1, number + 1, 0, -1, HUGE, -HUGE):
                    answers.append(self.agree(table, ahead + [(some, last, other)] + behind, least))
                    answers.append(self.agree(table, floors + [(some, last, other)], least))
                self.assertIs(do_show(table, ahead + [(some, last, number + 1)] + behind, least), False)
                answers.append(self.agree(table, ahead + behind, least))
                self.assertIs(do_show(table, floors + [floors[at]], least), True)
        self.assertEqual({True, False}, set(answers))

    def test_numbers_asked(self):
        for table in sample_tables(6):
            least, round_, floors = shortest(table)
            for number in (least - 1, 0, -1, -HUGE):
                self.assertIs(do_show(table, floors, number), True)
            for number in (least + 1, HUGE):
                self.assertIs(do_show(table, floors, number), False)

    def test_any_floors_against_the_words(self):
        answers = []
        for seed in range(400):
            source = numbers(seed)
            table = made(2 + seed % 3, 5, seed)
            least, round_, floors = shortest(table)
            some_floors = [
                (some, last, number - (next(source) % 4) // 2 + (next(source) % 40) // 39)
                for some, last, number in floors if next(source) % 8
            ]
            number = max(0, least - next(source) % 4)
            answers.append(self.agree(table, some_floors, number))
            if answers[-1]:
                self.assertLessEqual(number, least)
        self.assertEqual({True, False}, set(answers))

    def test_floors_of_another_table(self):
        floors = shortest(same_ways(4, 5))[2]
        self.assertIs(do_show(same_ways(4, 5), floors, 20), True)
        self.assertIs(do_show(same_ways(4, 4), floors, 1), False)
        self.assertIs(do_show(same_ways(3, 5), floors, 1), False)
        self.assertIs(do_show(same_ways(5, 5), floors, 1), False)


class NoFloors(unittest.TestCase):
    def refute(self, thing):
        for floors in (THREE_FLOORS + [thing], [thing] + THREE_FLOORS):
            kept = repr(floors)
            for number in (6, 0, -1, -HUGE):
                self.assertIs(do_show(THREE, floors, number), False, thing)
            self.assertEqual(repr(floors), kept)

    def test_strange_things(self):
        for thing in STRANGE:
            self.refute(thing)
            self.assertIs(do_show(THREE, [thing], 0), False)
            self.refute((thing, 0, 0))

    def test_strange_places_and_numbers(self):
        for thing in STRANGE:
            if type(thing) is not int:
                self.refute(((0,), 0, thing))
                self.refute(((0, 1), thing, 0))
                self.refute(((0, thing), 0, 0))

    def test_lists_for_tuples(self):
        for thing in ([(0,), 0, 0], ([0], 0, 0), ([0, 1], 1, 0), [[0], 0, 0], ((0,), [0], 0), ((0,), 0, [0])):
            self.refute(thing)

    def test_truths_for_numbers(self):
        for thing in (
            ((False,), 0, 0), ((0, True), 1, 0), ((0, True), 0, 0), ((0,), False, 0), ((0, 1), True, 0),
            ((0,), 0, False), ((0,), 0, True),
        ):
            self.refute(thing)

    def test_places_not_rising(self):
        for some in ((1, 0), (0, 2, 1), (0, 0), (0, 1, 1), (2, 1, 0)):
            self.refute((some, 0, 0))
            self.refute((some, some[0], 0))

    def test_without_0_or_last(self):
        for thing in (((), 0, 0), ((1,), 1, 0), ((1, 2), 2, 0), ((1,), 0, 0), ((0,), 1, 0), ((0, 2), 1, 0)):
            self.refute(thing)

    def test_places_that_there_are_not(self):
        for thing in (
            ((0, 3), 3, 0), ((0, 3), 0, 0), ((0, 1, 2, 3), 1, 0), ((-1, 0), 0, 0), ((-1, 0), -1, 0), ((0,), -1, 0),
            ((0, HUGE), 0, 0), ((-HUGE, 0), 0, 0), ((0,), HUGE, 0),
        ):
            self.refute(thing)

    def test_tuples_of_another_size(self):
        for thing in ((), (0,), ((0,),), ((0,), 0), ((0,), 0, 0, 0), (((0,), 0, 0),), ((0,), 0, 0, None)):
            self.refute(thing)

    def test_texts_and_none_within(self):
        for thing in (
            ("0", 0, 0), ("", 0, 0), (None, 0, 0), ((0, "1"), 0, 0), ((0, None), 0, 0), ((0,), "0", 0),
            ((0,), None, 0), ((0,), 0, "0"), ((0,), 0, None), ((0,), 0, (0,)), (0, 0, 0), (((0,),), 0, 0),
        ):
            self.refute(thing)


if __name__ == "__main__":
    unittest.main()
