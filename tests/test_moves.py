"""Stage 8: moves and betterings [16], [17]."""

import unittest
from copy import deepcopy

from homeround.moves import are_bettered, bettered, is_move, is_settled
from tests.samples import (
    all_moves, all_rounds, even_tables, made, made_even, numbers, on_a_line, one_ring, round_length, same_ways,
    sample_tables, shortest_length,
)


def some_rounds(many, how_many, seed=0):
    """All rounds of few places, else the first one, the last one and some others."""
    rounds = all_rounds(many)
    if len(rounds) <= how_many:
        return rounds
    source = numbers(seed + many)
    return [rounds[0], rounds[-1]] + [rounds[next(source) % len(rounds)] for time in range(how_many)]


def really_settled(table, round_):
    return all(round_length(table, other) >= round_length(table, round_) for other in all_moves(round_))


def really_bettered(table, some):
    steps = all(
        other in all_moves(one) and round_length(table, other) < round_length(table, one)
        for one, other in zip(some, some[1:])
    )
    return bool(some) and steps and really_settled(table, some[-1])


class IsMove(unittest.TestCase):
    def check(self, one, others):
        moves = all_moves(one)
        for other in others:
            expected = other in moves
            self.assertIs(is_move(one, other), expected, (one, other))
            self.assertIs(is_move(other, one), expected, (other, one))

    def test_few_places(self):
        for many in range(1, 6):
            for one in all_rounds(many):
                self.check(one, all_rounds(many))

    def test_more_places(self):
        for many in (6, 7):
            for one in some_rounds(many, 3):
                self.check(one, all_rounds(many))
        self.check((0, 1, 2, 3, 4, 5, 6, 7), all_rounds(8)[::3])
        for one in some_rounds(8, 8):
            self.check(one, some_rounds(8, 60, 5) + sorted(all_moves(one)))

    def test_no_move_leads_to_the_round_itself(self):
        for many in range(1, 9):
            for one in some_rounds(many, 6):
                self.assertIs(is_move(one, one), False)

    def test_one_two_and_three_places(self):
        self.assertIs(is_move((0,), (0,)), False)
        self.assertIs(is_move((0, 1), (0, 1)), False)
        self.assertIs(is_move((0, 1, 2), (0, 2, 1)), True)

    def test_a_stretch_the_other_way_round(self):
        one = (0, 1, 2, 3, 4, 5, 6, 7)
        for start in range(1, 8):
            for stop in range(start + 2, 9):
                other = one[:start] + one[start:stop][::-1] + one[stop:]
                self.assertIs(is_move(one, other), True)

    def test_a_stretch_elsewhere(self):
        one = (0, 4, 2, 7, 1, 6, 3, 5)
        self.assertIs(is_move(one, (0, 2, 7, 1, 6, 3, 4, 5)), True)
        self.assertIs(is_move(one, (0, 5, 4, 2, 7, 1, 6, 3)), True)
        self.assertIs(is_move(one, (0, 4, 2, 3, 5, 7, 1, 6)), True)
        self.assertIs(is_move(one, (0, 4, 2, 5, 3, 7, 1, 6)), True)
        self.assertIs(is_move(one, (0, 7, 1, 6, 4, 2, 3, 5)), True)
        self.assertIs(is_move(one, (0, 1, 6, 3, 5, 4, 2, 7)), True)
        self.assertIs(is_move(one, (0, 1, 6, 3, 5, 7, 2, 4)), True)
        self.assertIs(is_move(one, (0, 3, 6, 1, 4, 2, 7, 5)), True)

    def test_behind_the_first_place(self):
        one = (0, 1, 2, 3, 4, 5, 6, 7)
        self.assertIs(is_move(one, (0, 7, 1, 2, 3, 4, 5, 6)), True)
        self.assertIs(is_move(one, (0, 4, 5, 1, 2, 3, 6, 7)), True)
        self.assertIs(is_move(one, (0, 7, 6, 5, 1, 2, 3, 4)), True)

    def test_four_elsewhere_and_two_moves_are_none(self):
        one = (0, 1, 2, 3, 4, 5, 6, 7)
        self.assertIs(is_move(one, (0, 5, 6, 4, 3, 2, 1, 7)), False)
        self.assertIs(is_move(one, (0, 7, 4, 3, 2, 1, 5, 6)), False)
        self.assertIs(is_move(one, (0, 2, 1, 3, 4, 5, 7, 6)), False)
        self.assertIs(is_move(one, (0, 2, 1, 4, 3, 5, 6, 7)), False)
        # Of nine places four that jump four others are no three that do.
        self.assertIs(is_move((0, 1, 2, 3, 4, 5, 6, 7, 8), (0, 5, 6, 7, 8, 1, 2, 3, 4)), False)
        self.assertIs(is_move((0, 1, 2, 3, 4, 5, 6, 7, 8), (0, 4, 5, 6, 7, 8, 1, 2, 3)), True)
        # The first place stays where it is: a stretch with it does not turn.
        self.assertIs(is_move((0, 1, 2, 3, 4, 5), (0, 3, 2, 1, 5, 4)), False)

    def test_two_moves_one_behind_the_other(self):
        for many in (5, 6, 7, 8):
            one = tuple(range(many))
            moves = all_moves(one)
            twice = {last for other in sorted(moves)[::7] for last in sorted(all_moves(other))[::5]}
            unlike = sorted(twice - moves)
            if many > 5:
                self.assertTrue(unlike)
            for last in unlike:
                self.assertIs(is_move(one, last), False)


class IsSettled(unittest.TestCase):
    def test_few_places(self):
        seen = []
        for table in sample_tables(5):
            for round_ in all_rounds(len(table)):
                expected = really_settled(table, round_)
                self.assertIs(is_settled(table, round_), expected)
                seen.append(expected)
        self.assertEqual(set(seen), {True, False})

    def test_more_places(self):
        for table in sample_tables():
            if len(table) > 5:
                for round_ in some_rounds(len(table), 8):
                    self.assertIs(is_settled(table, round_), really_settled(table, round_))

    def test_one_and_two_places(self):
        self.assertIs(is_settled(((0,),), (0,)), True)
        self.assertIs(is_settled(((0, 3), (9, 0)), (0, 1)), True)

    def test_all_rounds_alike(self):
        for many in range(1, 9):
            for way in (0, 7):
                self.assertIs(is_settled(same_ways(many, way), tuple(range(many))), True)

    def test_the_same_round_in_another_table(self):
        for many in range(3, 9):
            round_ = tuple(range(many))
            turned = (0,) + round_[:0:-1]
            self.assertIs(is_settled(one_ring(many), round_), True)
            back = tuple(zip(*one_ring(many)))
            self.assertIs(is_settled(back, round_), False)
            self.assertIs(is_settled(back, turned), True)

    def test_a_shortest_round_is_settled(self):
        for table in sample_tables(6):
            least = shortest_length(table)
            for round_ in all_rounds(len(table)):
                if round_length(table, round_) == least:
                    self.assertIs(is_settled(table, round_), True)


class Bettered(unittest.TestCase):
    def check(self, table, round_):
        told = bettered(table, round_)
        self.assertIs(type(told), list)
        for other in told:
            self.assertIs(type(other), tuple)
        self.assertEqual(told[0], round_)
        self.assertTrue(really_bettered(table, told), (table, told))
        self.assertIs(are_bettered(table, told), True)
        return told

    def test_few_places(self):
        for table in sample_tables(5):
            for round_ in all_rounds(len(table)):
                self.check(table, round_)

    def test_more_places(self):
        lengths = []
        for table in sample_tables():
            if len(table) > 5:
                for round_ in some_rounds(len(table), 4):
                    lengths.append(len(self.check(table, round_)))
        self.assertGreater(max(lengths), 3)

    def test_a_settled_round_alone(self):
        for table in sample_tables():
            for round_ in some_rounds(len(table), 6):
                if really_settled(table, round_):
                    self.assertEqual(bettered(table, round_), [round_])

    def test_at_most_four_places_of_even_tables(self):
        for table in even_tables(1, 4) + [made_even(4, 12, seed) for seed in range(60)]:
            for round_ in all_rounds(len(table)):
                last = bettered(table, round_)[-1]
                self.assertEqual(round_length(table, last), shortest_length(table))

    def test_a_new_list_each_time(self):
        table = made_even(7, 30, 4)
        first = bettered(table, (0, 1, 2, 3, 4, 5, 6))
        kept = list(first)
        first.reverse()
        first.append(None)
        self.assertEqual(bettered(table, (0, 1, 2, 3, 4, 5, 6)), kept)


class AreBettered(unittest.TestCase):
    def check(self, table, some):
        expected = really_bettered(table, some)
        kept = deepcopy(some)
        self.assertIs(are_bettered(table, some), expected, (table, some))
        self.assertEqual(some, kept)
        return expected

    def test_no_rounds(self):
        for table in sample_tables():
            self.assertIs(are_bettered(table, []), False)

    def test_lists_otherwise(self):
        seen = []
        for table in sample_tables():
            rounds = some_rounds(len(table), 12)
            told = max([bettered(table, round_) for round_ in rounds], key=len)
            others = [told[at:] for at in range(len(told))] + [told[:at] for at in range(len(told))]
            others += [told[:at] + told[at + 1:] for at in range(len(told))]
            others += [told[:at] + [told[at]] + told[at:] for at in range(len(told))]
            others += [told[:at] + [other] + told[at:] for at in range(len(told) + 1) for other in rounds[:4]]
            others += [told[:at] + [other] + told[at + 1:] for at in range(len(told)) for other in rounds[:4]]
            others += [
                told[:at] + [told[at + 1], told[at]] + told[at + 2:] for at in range(len(told) - 1)
            ]
            others += [told[::-1], told[:1], told[-1:], told + told, told[:1] + told[-1:]]
            for some in others:
                seen.append(self.check(table, some))
        self.assertEqual(set(seen), {True, False})

    def test_any_first_one(self):
        table = made(6, 30, 8)
        for round_ in all_rounds(6)[::7]:
            told = bettered(table, round_)
            for at in range(len(told)):
                self.assertIs(are_bettered(table, told[at:]), True)
            for at in range(len(told) - 1):
                self.assertIs(are_bettered(table, told[:at + 1]), False)

    def test_a_settled_round_alone(self):
        self.assertIs(are_bettered(((0,),), [(0,)]), True)
        self.assertIs(are_bettered(((0,),), [(0,), (0,)]), False)
        self.assertIs(are_bettered(((0, 2), (5, 0)), [(0, 1)]), True)
        self.assertIs(are_bettered(one_ring(5), [(0, 1, 2, 3, 4)]), True)
        self.assertIs(are_bettered(one_ring(5), [(0, 4, 3, 2, 1)]), False)

    def test_a_move_that_is_as_long_is_none(self):
        for many in range(3, 9):
            one = tuple(range(many))
            other = (0, 2, 1) + one[3:]
            for way in (0, 6):
                self.assertIs(are_bettered(same_ways(many, way), [one]), True)
                self.assertIs(are_bettered(same_ways(many, way), [one, other]), False)

    def test_a_shorter_one_by_two_moves_is_none(self):
        table = on_a_line(8)
        start, last = (0, 2, 1, 4, 3, 6, 5, 7), (0, 1, 2, 3, 4, 5, 6, 7)
        self.assertIs(are_bettered(table, [last]), True)
        self.assertGreater(round_length(table, start), round_length(table, last))
        self.assertIs(are_bettered(table, [start, last]), False)

    def test_lists_of_any_rounds(self):
        seen = []
        for many in (3, 4, 5):
            for table in (made(many, 3, 5), made_even(many, 3, 6), same_ways(many, 2)):
                for one in all_rounds(many):
                    seen.append(self.check(table, [one]))
                    for other in all_rounds(many):
                        seen.append(self.check(table, [one, other]))
        self.assertEqual(set(seen), {True, False})


if __name__ == "__main__":
    unittest.main()
