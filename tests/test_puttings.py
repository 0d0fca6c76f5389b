"""Stage 7: rounds made place by place [14], [15]."""

import unittest
from itertools import permutations

from homeround.puttings import cheapest, far, near, nearest, put_in
from homeround.trees import least_tree
from tests.samples import (
    made, made_even, numbers, on_a_line, round_length, same_ways, sample_tables, shortest_length, straight_tables,
    straightened, with_way,
)


def longer_by(table, round_, at, place):
    """By how much a place put in behind the place of the number at makes a round longer."""
    if len(round_) == 1:
        return table[0][place] + table[place][0]
    other = round_[at + 1] if at + 1 < len(round_) else round_[0]
    return table[round_[at]][place] + table[place][other] - table[round_[at]][other]


def slow_put(table, round_, place):
    """The round with a place put in, spot by spot as the document says it."""
    best = 0
    for at in range(len(round_)):
        if longer_by(table, round_, at, place) < longer_by(table, round_, best, place):
            best = at
    return round_[:best + 1] + (place,) + round_[best + 1:]


def cost_cheapest(table, round_, place):
    return min(longer_by(table, round_, at, place) for at in range(len(round_)))


def cost_near(table, round_, place):
    return min(table[one][place] for one in round_)


def cost_far(table, round_, place):
    return -min(table[one][place] for one in round_)


def slow_round(table, cost):
    round_ = (0,)
    while len(round_) < len(table):
        best = None
        for place in range(len(table)):
            if place not in round_ and (best is None or cost(table, round_, place) < cost(table, round_, best)):
                best = place
        round_ = slow_put(table, round_, best)
    return round_


def slow_nearest(table):
    gone = [0]
    while len(gone) < len(table):
        best = None
        for place in range(len(table)):
            if place not in gone and (best is None or table[gone[-1]][place] < table[gone[-1]][best]):
                best = place
        gone.append(best)
    return tuple(gone)


def many_tables():
    found = sample_tables() + straight_tables()
    for many in range(2, 9):
        for seed in range(30):
            for top in (1, 2, 5, 30):
                found += [made(many, top, seed), made_even(many, top, seed)]
    return found


SLOW = (
    (nearest, slow_nearest),
    (cheapest, lambda table: slow_round(table, cost_cheapest)),
    (near, lambda table: slow_round(table, cost_near)),
    (far, lambda table: slow_round(table, cost_far)),
)


class Makers(unittest.TestCase):
    def test_against_the_words(self):
        for table in many_tables():
            for quick, slow in SLOW:
                round_ = quick(table)
                self.assertIs(type(round_), tuple)
                self.assertEqual({type(place) for place in round_}, {int})
                self.assertEqual(round_, slow(table), (quick, table))

    def test_one_two_three_places(self):
        for make in (nearest, cheapest, near, far):
            self.assertEqual(make(((0,),)), (0,))
            self.assertEqual(make(((0, 3), (4, 0))), (0, 1))
            self.assertEqual(make(((0, 0), (0, 0))), (0, 1))
        # Of three places all spots of the last one are alike in an even table: behind 0.
        self.assertEqual(nearest(same_ways(3, 5)), (0, 1, 2))
        self.assertEqual(cheapest(same_ways(3, 5)), (0, 2, 1))
        self.assertEqual(near(same_ways(3, 5)), (0, 2, 1))
        self.assertEqual(far(same_ways(3, 5)), (0, 2, 1))

    def test_all_alike(self):
        for many in range(2, 9):
            for way in (0, 1, 10 ** 6):
                table = same_ways(many, way)
                self.assertEqual(nearest(table), tuple(range(many)))
                for make in (cheapest, near, far):
                    self.assertEqual(make(table), (0,) + tuple(range(many - 1, 0, -1)))

    def test_nearest_goes_by_the_way_there(self):
        table = ((0, 5, 4, 9), (1, 0, 9, 3), (9, 2, 0, 9), (1, 1, 1, 0))
        self.assertEqual(nearest(table), (0, 2, 1, 3))
        # Of several the least number.
        self.assertEqual(nearest(with_way(table, 0, 1, 4)), (0, 1, 3, 2))

    def test_all_four_are_unlike(self):
        table = ((0, 5, 8, 8), (8, 0, 1, 1), (6, 1, 0, 8), (3, 2, 5, 0))
        # From 0 to 1 by 5, to 2 by 1 (as to 3, but the lesser number), to 3.
        self.assertEqual(nearest(table), (0, 1, 2, 3))
        # 3 there and back by 11; 1 ahead of it by -2; 2 behind 0 by 4, elsewhere by 8.
        self.assertEqual(cheapest(table), (0, 2, 1, 3))
        # 1 by 5; 2 by 1, put in behind it by -1; 3 by 5 at each spot.
        self.assertEqual(near(table), (0, 3, 1, 2))
        # 2 by 8, as 3; 3 by 8, by 5 at each spot; 1 behind 0 or behind 3 by -2.
        self.assertEqual(far(table), (0, 1, 3, 2))

    def test_near_and_far_go_by_the_way_from_the_round(self):
        # From 0 the way to 2 is shorter than that to 1, back it is the other way about.
        table = ((0, 6, 5, 7), (0, 0, 9, 9), (9, 9, 0, 9), (9, 9, 9, 0))
        turned = tuple(zip(*table))
        for one in (table, turned):
            self.assertEqual(near(one), slow_round(one, cost_near))
            self.assertEqual(far(one), slow_round(one, cost_far))
        self.assertNotEqual(near(table), near(turned))

    def test_of_straight_tables_at_most_twice_the_tree(self):
        for table in self.straight():
            twice = 2 * least_tree(table)[0]
            self.assertLessEqual(round_length(table, cheapest(table)), twice)
            self.assertLessEqual(round_length(table, near(table)), twice)

    def test_nearest_within_its_share(self):
        for table in self.straight():
            k = 0
            while 2 ** k < len(table):
                k += 1
            self.assertLessEqual(2 * round_length(table, nearest(table)), (k + 1) * shortest_length(table))

    def straight(self):
        found = straight_tables()
        for many in range(2, 9):
            for seed in range(15):
                found.append(straightened(made_even(many, (3, 20, 10 ** 6)[seed % 3], seed)))
        return found


class PutIn(unittest.TestCase):
    def check(self, table, order):
        rounds = put_in(table, order)
        self.assertIs(type(rounds), list)
        self.assertEqual(len(rounds), len(table))
        self.assertEqual(rounds[0], (0,))
        for at, round_ in enumerate(rounds):
            self.assertIs(type(round_), tuple)
            self.assertEqual({type(place) for place in round_}, {int})
            if at:
                self.assertEqual(round_, slow_put(table, rounds[at - 1], order[at]), (table, order))

    def test_all_orders_of_few_places(self):
        for table in sample_tables(5):
            for rest in permutations(range(1, len(table))):
                self.check(table, (0,) + rest)

    def test_more_places(self):
        for table in sample_tables():
            if len(table) > 5:
                for seed in range(12):
                    source = numbers(seed)
                    self.check(table, (0,) + tuple(sorted(range(1, len(table)), key=lambda place: next(source))))

    def test_one_and_two_places(self):
        self.assertEqual(put_in(((0,),), (0,)), [(0,)])
        self.assertEqual(put_in(((0, 3), (4, 0)), (0, 1)), [(0,), (0, 1)])

    def test_of_several_spots_behind_the_earliest(self):
        self.assertEqual(put_in(same_ways(4, 3), (0, 2, 1, 3)), [(0,), (0, 2), (0, 1, 2), (0, 3, 1, 2)])
        self.assertEqual(put_in(on_a_line(4), (0, 3, 1, 2)), [(0,), (0, 3), (0, 1, 3), (0, 1, 2, 3)])
        self.assertEqual(put_in(on_a_line(4), (0, 1, 2, 3)), [(0,), (0, 1), (0, 2, 1), (0, 3, 2, 1)])

    def test_the_last_spot_is_one_too(self):
        table = ((0, 1, 9), (9, 0, 1), (1, 9, 0))
        self.assertEqual(put_in(table, (0, 1, 2)), [(0,), (0, 1), (0, 1, 2)])
        self.assertEqual(put_in(table, (0, 2, 1)), [(0,), (0, 2), (0, 1, 2)])
        # A spot that makes the round shorter is better than one that lets it be: from 1 home it is 9, by 2 it is 2.
        table = ((0, 1, 1), (9, 0, 1), (1, 0, 0))
        self.assertEqual(put_in(table, (0, 1, 2))[-1], (0, 1, 2))

    def test_a_new_list_each_time(self):
        table = made(5, 9, 1)
        order = (0, 3, 1, 4, 2)
        first = put_in(table, order)
        kept = list(first)
        first.clear()
        self.assertEqual(put_in(table, order), kept)


if __name__ == "__main__":
    unittest.main()
