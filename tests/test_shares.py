"""Stage 5: shares and cut prices [10], best prices [11]."""

import unittest
from fractions import Fraction
from itertools import combinations, permutations, product

from homeround.errors import NotEven, TooFew, TooMany
from homeround.hung import hung
from homeround.shares import are_cuts, are_shares, best_prices, shares
from tests.samples import (
    HUGE, STRANGE, all_rounds, all_ties, even_tables, made_even, numbers, on_a_line, prism, round_length, same_ways,
    shortest_length, straight_tables, uneven_tables, with_way,
)

NO_FRACTIONS = STRANGE + (
    2, (2, 2), (0, 2), (2, 4), (4, 2), (1, 0), (1, -1), (-1, -1), (1,), (1, 1, 1), [1, 1], (True, 1), (1, True),
    (1, None), ("1", 1), (1, "1"), "1/1", ((1, 1),), (HUGE, HUGE),
)
FIVE = made_even(5, 20, 3)
SIX = prism(3, 2, 40)


def told(value):
    value = Fraction(value)
    return (value.numerator, value.denominator)


def all_cuts(many):
    return [some for size in range(1, many) for some in combinations(range(many), size)]


def is_fraction(thing):
    return type(thing) is tuple and [type(part) for part in thing] == [int, int] and thing == told(Fraction(*thing))


def worth_of_shares(table, some):
    return sum((table[i][j] * Fraction(*share) for i, j, share in some), Fraction(0))


def really_shares(table, some, worth):
    """Whether a list, each thing in it a pair of numbers and a fraction, is shares of the worth, word by word."""
    many = len(table)
    pairs = [(i, j) for i, j, share in some]
    if some != sorted(some) or len(set(pairs)) < len(pairs) or not set(pairs) <= set(all_ties(many)):
        return False
    if any(share[0] <= 0 or not is_fraction(share) for i, j, share in some):
        return False
    for cut in all_cuts(many):
        over = sum(Fraction(*share) for i, j, share in some if (i in cut) != (j in cut))
        if over < 2 or (len(cut) == 1 and over != 2):
            return False
    return told(worth_of_shares(table, some)) == worth


def worth_of_cuts(cuts):
    return 2 * sum((Fraction(*price) for some, price in cuts), Fraction(0))


def really_cuts(table, cuts, worth):
    """Whether a list, each thing in it a tuple of places and a fraction, is cut prices of the worth, word by word."""
    many = len(table)
    sets = [some for some, price in cuts]
    if cuts != sorted(cuts) or len(set(sets)) < len(sets) or not set(sets) <= set(all_cuts(many)):
        return False
    for some, price in cuts:
        if not is_fraction(price) or price[0] == 0 or (price[0] < 0 and len(some) > 1):
            return False
    for i, j in all_ties(many):
        if sum(Fraction(*price) for some, price in cuts if (i in some) != (j in some)) > table[i][j]:
            return False
    return told(worth_of_cuts(cuts)) == worth


def fit_tables():
    """Even tables of three to six places."""
    found = even_tables(3, 6) + straight_tables(3, 6)
    found += [prism(1, 0, 9), prism(1, 1, 9), SIX, prism(10 ** 6 - 1, 7, 10 ** 6), prism(5, 1, 30, (3, 0, 4, 2, 5, 1))]
    return found


def as_shares(many, weighted):
    """The shares of rounds, or other lists of places that are gone round, each with a weight."""
    parts = {}
    for places, weight in weighted:
        for at in range(len(places)):
            i, j = sorted((places[at], places[(at + 1) % len(places)]))
            parts[i, j] = parts.get((i, j), 0) + Fraction(weight)
    return sorted((i, j, told(share)) for (i, j), share in parts.items() if share)


class Shares(unittest.TestCase):
    def check(self, table):
        answer = shares(table)
        self.assertIs(type(answer), tuple)
        worth, some, cuts = answer
        self.assertTrue(is_fraction(worth), worth)
        self.assertIs(type(some), list)
        self.assertIs(type(cuts), list)
        for thing in some:
            self.assertIs(type(thing), tuple)
            self.assertEqual([type(part) for part in thing], [int, int, tuple])
        for thing in cuts:
            self.assertIs(type(thing), tuple)
            self.assertEqual([type(part) for part in thing], [tuple, tuple])
            self.assertEqual({type(place) for place in thing[0]}, {int})
        self.assertTrue(really_shares(table, some, worth), (table, answer))
        self.assertTrue(really_cuts(table, cuts, worth), (table, answer))
        self.assertIs(are_shares(table, some, worth), True)
        self.assertIs(are_cuts(table, cuts, worth), True)
        return Fraction(*worth)

    def test_fit_tables(self):
        for table in fit_tables():
            self.check(table)

    def test_more_tables(self):
        for many in range(3, 7):
            for seed in range(25):
                for top in (1, 4, 10 ** 6):
                    self.check(made_even(many, top, seed))

    def test_all_tables_of_four_places_with_short_ways(self):
        for ways in product((0, 1, 2), repeat=6):
            table = same_ways(4, 0)
            for (i, j), way in zip(all_ties(4), ways):
                table = with_way(with_way(table, i, j, way), j, i, way)
            self.assertEqual(self.check(table), shortest_length(table), table)

    def test_ways_that_are_given_up_again(self):
        # Here what the way between the last two places has left over is given up at first, and won back.
        for many, top, seed in ((5, 30, 136), (5, 1000, 169), (5, 1000, 264), (6, 30, 268), (6, 1000, 82)):
            self.check(made_even(many, top, seed))

    def test_at_most_five_places_the_shortest_round(self):
        for table in fit_tables():
            if len(table) <= 5:
                self.assertEqual(self.check(table), shortest_length(table), table)

    def test_three_places(self):
        for table in even_tables(3, 3):
            worth, some, cuts = shares(table)
            self.assertEqual(worth, (table[0][1] + table[0][2] + table[1][2], 1))
            self.assertEqual(some, [(0, 1, (1, 1)), (0, 2, (1, 1)), (1, 2, (1, 1))])

    def test_halves_and_wholes(self):
        across = [(0, 3, (1, 1)), (1, 4, (1, 1)), (2, 5, (1, 1))]
        within = [(i, j, (1, 2)) for i, j in ((0, 1), (0, 2), (1, 2), (3, 4), (3, 5), (4, 5))]
        for table, worth in ((SIX, (15, 1)), (prism(1, 0, 9), (3, 1)), (prism(2, 1, 3), (9, 1))):
            self.assertEqual(shares(table)[:2], (worth, sorted(across + within)))
            self.assertLess(Fraction(*worth), shortest_length(table))
        # One way within longer by one: the worth is broken.
        table = with_way(with_way(SIX, 0, 1, 4), 1, 0, 4)
        self.assertEqual(shares(table)[:2], ((31, 2), sorted(across + within)))

    def test_against_rounds_and_prisms(self):
        # The shares of six places that are no mean of others are rounds and these.
        halves = [prism_shares(order) for order in permutations(range(6)) if order[0] == 0]
        for table in [made_even(6, top, seed) for seed in range(4) for top in (3, 50)] + [SIX]:
            least = min(worth_of_shares(table, some) for some in halves)
            self.assertEqual(self.check(table), min(least, shortest_length(table)))

    def test_not_even_too_few_too_many(self):
        for table in uneven_tables():
            with self.assertRaises(NotEven):
                shares(table)
        for table in even_tables(1, 2):
            with self.assertRaises(TooFew):
                shares(table)
        for table in even_tables(7, 8):
            with self.assertRaises(TooMany):
                shares(table)

    def test_new_lists_each_time(self):
        for table in (FIVE, SIX):
            kept = shares(table)
            kept = (kept[0], list(kept[1]), list(kept[2]))
            worth, some, cuts = shares(table)
            some.clear()
            cuts.append(None)
            self.assertEqual(shares(table), kept)


def prism_shares(order):
    places = [(0, 1), (0, 2), (1, 2), (3, 4), (3, 5), (4, 5), (0, 3), (1, 4), (2, 5)]
    found = []
    for i, j in places:
        share = (1, 1) if j == i + 3 else (1, 2)
        found.append(tuple(sorted((order[i], order[j]))) + (share,))
    return sorted(found)


class AreShares(unittest.TestCase):
    def agree(self, table, some, worth):
        kept = repr(some)
        answer = are_shares(table, some, worth)
        self.assertIs(answer, really_shares(table, some, worth), (table, some, worth))
        self.assertEqual(repr(some), kept)
        return answer

    def refute(self, table, some, worth):
        kept = repr(some)
        self.assertIs(are_shares(table, some, worth), False, (table, some, worth))
        self.assertEqual(repr(some), kept)

    def test_each_round(self):
        for table in (made_even(3, 9, 1), made_even(4, 9, 1), FIVE, SIX):
            many = len(table)
            for round_ in all_rounds(many):
                some = as_shares(many, [(round_, 1)])
                worth = (round_length(table, round_), 1)
                self.assertIs(are_shares(table, some, worth), True)
                self.refute(table, some, (worth[0] + 1, 1))
                self.refute(table, some, (worth[0] - 1, 1))

    def test_means_of_rounds(self):
        for table in (made_even(4, 9, 1), FIVE, SIX):
            many = len(table)
            rounds = all_rounds(many)
            for seed in range(25):
                source = numbers(seed)
                one, other, third = (rounds[next(source) % len(rounds)] for count in range(3))
                for weights in ((Fraction(1, 2), Fraction(1, 2), 0), (Fraction(1, 3), Fraction(1, 2), Fraction(1, 6)),
                                (Fraction(1, HUGE), Fraction(2, HUGE), Fraction(HUGE - 3, HUGE))):
                    some = as_shares(many, zip((one, other, third), weights))
                    worth = told(worth_of_shares(table, some))
                    self.assertIs(are_shares(table, some, worth), True)
                    self.refute(table, some, told(Fraction(*worth) + Fraction(1, HUGE)))
                    self.refute(table, some, told(-Fraction(*worth) - 1))

    def test_each_cut_counts(self):
        # Two parts gone round each by itself, or the one there and back: 2 at each place, but nothing over one cut.
        for many in (4, 5, 6):
            table = made_even(many, 9, many)
            for cut in all_cuts(many):
                rest = tuple(place for place in range(many) if place not in cut)
                if 2 <= len(cut) <= many - 2:
                    some = as_shares(many, [(cut, 1), (rest, 1)])
                    self.refute(table, some, told(worth_of_shares(table, some)))
                    # With a round in it this cut alone has somewhat less than 2.
                    round_ = cut + rest
                    for weight in (Fraction(1, 2), Fraction(1, 10 ** 6)):
                        some = as_shares(many, [(cut, weight), (rest, weight), (round_, 1 - weight)])
                        self.refute(table, some, told(worth_of_shares(table, some)))

    def test_2_at_each_place(self):
        for table in (made_even(3, 9, 1), made_even(4, 9, 1), FIVE, SIX):
            worth, some, cuts = shares(table)
            for at, (i, j, share) in enumerate(some):
                for other in (Fraction(1, 7), Fraction(-1, 7), Fraction(1, HUGE), 1, -Fraction(*share) / 2):
                    more = told(Fraction(*share) + other)
                    changed = some[:at] + [(i, j, more)] + some[at + 1:]
                    self.refute(table, changed, told(worth_of_shares(table, changed)))
                    self.refute(table, changed, worth)

    def test_more_than_2_at_all_places(self):
        for many in (3, 4, 5, 6):
            table = same_ways(many, 1)
            some = [(i, j, told(Fraction(2, many - 1))) for i, j in all_ties(many)]
            self.assertIs(are_shares(table, some, (many, 1)), True)
            for more in (Fraction(1, 9), Fraction(-1, 99)):
                changed = [(i, j, told(Fraction(*share) + more)) for i, j, share in some]
                self.refute(table, changed, told(worth_of_shares(table, changed)))

    def test_below_0_and_0(self):
        noughts = same_ways(4, 0)
        round_ = [(0, 1, (1, 1)), (0, 3, (1, 1)), (1, 2, (1, 1)), (2, 3, (1, 1))]
        self.assertIs(are_shares(noughts, round_, (0, 1)), True)
        self.refute(noughts, sorted(round_ + [(0, 2, (0, 1))]), (0, 1))
        self.refute(noughts, sorted(round_ + [(0, 2, (0, 1)), (1, 3, (0, 1))]), (0, 1))
        # 2 at each place by shares below 0, and 2 or more over each cut.
        some = [(0, 1, (3, 2)), (0, 2, (-1, 1)), (0, 3, (3, 2)), (1, 2, (3, 2)), (1, 3, (-1, 1)), (2, 3, (3, 2))]
        self.refute(noughts, some, (0, 1))

    def test_strange_things(self):
        for table in (made_even(4, 9, 1), SIX):
            worth, some, cuts = shares(table)
            for at in range(len(some)):
                i, j, share = some[at]
                for thing in STRANGE + ((i, j), (i, j, share, 0), [i, j, share], (j, i, share), ((i, j), share), share):
                    self.refute(table, some[:at] + [thing] + some[at + 1:], worth)
                    self.refute(table, some[:at] + [thing] + some[at:], worth)
                for thing in NO_FRACTIONS:
                    self.refute(table, some[:at] + [(i, j, thing)] + some[at + 1:], worth)
                for thing in STRANGE + ([i], str(i)):
                    if thing != i or type(thing) is not int:
                        self.refute(table, some[:at] + [(thing, j, share)] + some[at + 1:], worth)
                    if thing != j or type(thing) is not int:
                        self.refute(table, some[:at] + [(i, thing, share)] + some[at + 1:], worth)

    def test_not_in_lowest_terms(self):
        for table in (same_ways(3, 0), SIX):
            worth, some, cuts = shares(table)
            for at, (i, j, (top, bottom)) in enumerate(some):
                for by in (2, 3, -1, HUGE):
                    thing = (i, j, (top * by, bottom * by))
                    self.refute(table, some[:at] + [thing] + some[at + 1:], worth)

    def test_truths_for_numbers(self):
        three = same_ways(3, 0)
        some = [(0, 1, (1, 1)), (0, 2, (1, 1)), (1, 2, (1, 1))]
        self.assertIs(are_shares(three, some, (0, 1)), True)
        for thing in ((False, 1, (1, 1)), (0, True, (1, 1)), (0, 1, (True, 1)), (0, 1, (1, True))):
            self.refute(three, [thing] + some[1:], (0, 1))
        self.refute(three, some[:2] + [(True, 2, (1, 1))], (0, 1))

    def test_left_out_twice_turned_not_in_order(self):
        for table in (same_ways(3, 0), same_ways(4, 0), FIVE, SIX):
            worth, some, cuts = shares(table)
            many = len(table)
            for at, (i, j, share) in enumerate(some):
                self.refute(table, some[:at] + some[at + 1:], worth)
                self.refute(table, some[:at] + [some[at]] + some[at:], worth)
                self.refute(table, some[:at] + [(j, i, share)] + some[at + 1:], worth)
                half = told(Fraction(*share) / 2)
                self.refute(table, some[:at] + [(i, j, half), (i, j, half)] + some[at + 1:], worth)
                third = told(Fraction(*share) / 3)
                rest = told(Fraction(*share) * Fraction(2, 3))
                self.refute(table, some[:at] + [(i, j, third), (i, j, rest)] + some[at + 1:], worth)
                if at:
                    self.refute(table, some[:at - 1] + [some[at], some[at - 1]] + some[at + 1:], worth)
                for thing in ((i, many, share), (-1, j, share), (i, i, share), (i, HUGE, share), (i, j - many, share)):
                    self.refute(table, sorted(some[:at] + [thing] + some[at + 1:]), worth)
                    self.refute(table, sorted(some + [thing]), worth)
            self.refute(table, some[::-1], worth)
            self.refute(table, [], worth)
            self.refute(table, [], (0, 1))
            self.refute(table, some + some, worth)

    def test_a_place_that_there_is_not(self):
        # Shares of a place more, called as there is none: 2 at each place that there is, and 2 or more over each cut.
        for many in (3, 4, 5, 6):
            table = same_ways(many, 0)
            for extra in (-1, many, HUGE, -HUGE):
                places = sorted(list(range(many)) + [extra])
                some = [(i, j, told(Fraction(2, many))) for i, j in combinations(places, 2)]
                self.refute(table, some, (0, 1))
                self.assertIs(are_shares(same_ways(many, 0), as_shares(many, [(range(many), 1)]), (0, 1)), True)

    def test_shares_of_another_table(self):
        worth, some, cuts = shares(same_ways(4, 3))
        self.assertIs(are_shares(same_ways(4, 3), some, (12, 1)), True)
        self.refute(same_ways(5, 3), some, worth)
        self.refute(same_ways(3, 3), some, worth)
        self.assertIs(are_shares(same_ways(4, 10 ** 6), some, (4 * 10 ** 6, 1)), True)

    def test_any_lists_against_the_words(self):
        answers = set()
        for seed in range(400):
            source = numbers(seed)
            many = 3 + seed % 4
            table = made_even(many, 5, seed)
            rounds = all_rounds(many)
            weight = Fraction(next(source) % 5, 4)
            some = as_shares(many, [(rounds[next(source) % len(rounds)], weight),
                                    (rounds[next(source) % len(rounds)], 1 - weight)])
            if next(source) % 3 == 0:
                some.insert(next(source) % (len(some) + 1), (next(source) % many, next(source) % many, (1, 2)))
            answers.add(self.agree(table, some, told(worth_of_shares(table, some))))
        self.assertEqual(answers, {True, False})

    def test_refusals_ahead_of_any_list(self):
        for handed in ([], [None], [(0, 1, (1, 1))], ["x"], [(1, 0, (1, 0))], [[0, 1, (1, 1)]]):
            for worth in ((0, 1), (-7, 3), (HUGE, 7)):
                for table in uneven_tables():
                    with self.assertRaises(NotEven):
                        are_shares(table, handed, worth)
                for table in even_tables(1, 2):
                    with self.assertRaises(TooFew):
                        are_shares(table, handed, worth)
                for table in even_tables(7, 8):
                    with self.assertRaises(TooMany):
                        are_shares(table, handed, worth)


class AreCuts(unittest.TestCase):
    def agree(self, table, cuts, worth):
        kept = repr(cuts)
        answer = are_cuts(table, cuts, worth)
        self.assertIs(answer, really_cuts(table, cuts, worth), (table, cuts, worth))
        self.assertEqual(repr(cuts), kept)
        return answer

    def refute(self, table, cuts, worth):
        kept = repr(cuts)
        self.assertIs(are_cuts(table, cuts, worth), False, (table, cuts, worth))
        self.assertEqual(repr(cuts), kept)

    def test_no_cuts_are_of_worth_0(self):
        for table in fit_tables():
            self.assertIs(are_cuts(table, [], (0, 1)), True)
            self.refute(table, [], (1, 1))
            self.refute(table, [], (-1, HUGE))

    def test_each_set_alone(self):
        for many in range(3, 7):
            table = same_ways(many, 4)
            for some in all_cuts(many):
                for price in ((4, 1), (1, 3), (1, HUGE), (399, 100)):
                    worth = told(2 * Fraction(*price))
                    self.assertIs(are_cuts(table, [(some, price)], worth), True)
                    self.refute(table, [(some, price)], price)
                    self.refute(table, [(some, price)], told(-2 * Fraction(*price)))
                for price in ((5, 1), (4 * HUGE + 1, HUGE), (HUGE, 1)):
                    self.refute(table, [(some, price)], told(2 * Fraction(*price)))
                for price in ((-1, 1), (-1, HUGE), (-HUGE, 1)):
                    alone = are_cuts(table, [(some, price)], told(2 * Fraction(*price)))
                    self.assertIs(alone, len(some) == 1)
                self.refute(table, [(some, (0, 1))], (0, 1))

    def test_none_and_all_places(self):
        for table in fit_tables():
            for price in ((1, 1), (1, HUGE), (-1, 1), (0, 1)):
                worth = told(2 * Fraction(*price))
                self.refute(table, [((), price)], worth)
                self.refute(table, [(tuple(range(len(table))), price)], worth)

    def test_each_pair_counts(self):
        for many in range(3, 7):
            cuts = [((place,), (2, 1)) for place in range(many)]
            worth = (4 * many, 1)
            self.assertIs(are_cuts(same_ways(many, 4), cuts, worth), True)
            for i, j in all_ties(many):
                table = with_way(with_way(same_ways(many, 9), i, j, 4), j, i, 4)
                self.assertIs(are_cuts(table, cuts, worth), True)
                self.refute(with_way(with_way(table, i, j, 3), j, i, 3), cuts, worth)

    def test_prices_below_0(self):
        table = on_a_line(4)
        cuts = [((0,), (-5, 1)), ((0, 1), (1, 1)), ((1,), (4, 1)), ((2,), (-1, 2))]
        self.assertIs(are_cuts(table, cuts, (-1, 1)), True)
        self.refute(table, cuts, (1, 1))
        self.refute(table, cuts, (21, 1))
        self.refute(table, [((0,), (5, 1)), ((0, 1), (-1, 1))], (8, 1))
        self.refute(table, [((0, 1), (-1, HUGE))], (-2, HUGE))
        self.assertIs(are_cuts(table, [((3,), (-HUGE, 1))], (-2 * HUGE, 1)), True)

    def test_one_price_more_or_less(self):
        for table in (made_even(3, 9, 1), made_even(4, 9, 1), FIVE, SIX):
            worth, some, cuts = shares(table)
            for at, (places, price) in enumerate(cuts):
                for more in (Fraction(1, 5), Fraction(-1, 5), Fraction(1, HUGE), Fraction(-1, HUGE), 1, -1):
                    changed = cuts[:at] + [(places, told(Fraction(*price) + more))] + cuts[at + 1:]
                    self.refute(table, changed, worth)
                    answer = self.agree(table, changed, told(worth_of_cuts(changed)))
                    # No cut prices have a greater worth.
                    self.assertFalse(answer and more > 0)

    def test_strange_things(self):
        for table in (made_even(4, 9, 1), SIX):
            worth, shared, cuts = shares(table)
            for at in range(len(cuts)):
                some, price = cuts[at]
                for thing in STRANGE + ((some,), (some, price, 0), [some, price], (price, some), some,
                                        (list(some), price), (some[0], price), ((some,), price)):
                    self.refute(table, cuts[:at] + [thing] + cuts[at + 1:], worth)
                    self.refute(table, cuts[:at] + [thing] + cuts[at:], worth)
                for thing in NO_FRACTIONS + ((0, 1),):
                    self.refute(table, cuts[:at] + [(some, thing)] + cuts[at + 1:], worth)
                for thing in STRANGE:
                    if type(thing) is not int or not 0 <= thing < len(table):
                        self.refute(table, cuts[:at] + [((thing,), price)] + cuts[at + 1:], worth)
                        self.refute(table, [((0, thing), (1, HUGE))], (2, HUGE))

    def test_sets_with_wrong_places(self):
        table = same_ways(4, 9)
        for some in ((1, 0), (0, 0), (0, 1, 1), (2, 1, 0), (0, 4), (4,), (-1,), (-1, 0), (HUGE,), (0, HUGE), (True,),
                     (False,), (0, True), (False, 1), (0, 1, 2, 3), (0, 1, 2, 4), (), [0], [0, 1], "0", 0, (0, None)):
            for price in ((1, 1), (1, 2), (-1, 1)):
                self.refute(table, [(some, price)], told(2 * Fraction(*price)))

    def test_each_set_parts_its_own_pairs(self):
        # All ways are of length 0 but those between a place in the set and one outside.
        for many in (3, 4, 5, 6):
            for size in range(1, many):
                for some in combinations(range(many), size):
                    table = same_ways(many, 0)
                    for i, j in all_ties(many):
                        if (i in some) != (j in some):
                            table = with_way(with_way(table, i, j, 3), j, i, 3)
                    self.assertIs(are_cuts(table, [(some, (3, 1))], (6, 1)), True)
                    self.assertIs(are_cuts(table, [(some, (19, 6))], (19, 3)), False)

    def test_not_in_lowest_terms(self):
        table = same_ways(3, 9)
        for price in ((2, 2), (2, 4), (0, 2), (-2, 2), (-1, -1), (1, 0), (2, -2), (HUGE, HUGE)):
            worth = told(Fraction(2 * price[0], price[1] or 1))
            self.refute(table, [((0,), price)], worth)
            self.refute(table, [((0, 1), price)], worth)

    def test_left_out_twice_not_in_order(self):
        table = same_ways(5, 9)
        cuts = [((0,), (1, 1)), ((0, 1), (1, 2)), ((0, 1, 2), (2, 1)), ((1,), (-1, 3)), ((1, 3, 4), (1, 1))]
        worth = told(worth_of_cuts(cuts))
        self.assertIs(are_cuts(table, cuts, worth), True)
        for at in range(len(cuts)):
            some, price = cuts[at]
            self.refute(table, cuts[:at] + cuts[at + 1:], worth)
            self.refute(table, cuts[:at] + [cuts[at]] + cuts[at:], worth)
            self.refute(table, cuts[:at] + [cuts[at]] + cuts[at:], told(Fraction(*worth) + 2 * Fraction(*price)))
            half = told(Fraction(*price) / 3), told(Fraction(*price) * Fraction(2, 3))
            self.refute(table, cuts[:at] + sorted([(some, half[0]), (some, half[1])]) + cuts[at + 1:], worth)
            if at:
                self.refute(table, cuts[:at - 1] + [cuts[at], cuts[at - 1]] + cuts[at + 1:], worth)
        self.refute(table, cuts[::-1], worth)
        self.refute(table, cuts, told(Fraction(*worth) / 2))

    def test_a_set_and_all_others_may_both_stand(self):
        table = same_ways(4, 6)
        cuts = [((0,), (3, 1)), ((0, 1), (1, 1)), ((1, 2, 3), (2, 1)), ((2, 3), (1, 2))]
        self.assertIs(are_cuts(table, cuts, (13, 1)), False)
        cuts = [((0,), (2, 1)), ((0, 1), (1, 1)), ((1, 2, 3), (2, 1)), ((2, 3), (1, 2))]
        self.assertIs(are_cuts(table, cuts, (11, 1)), True)
        # With all others a greater one: 6 over the way is the most.
        cuts = [((0,), (2, 1)), ((0, 1), (1, 1)), ((1, 2, 3), (2, 1)), ((2, 3), (1, 1))]
        self.assertIs(are_cuts(table, cuts, (12, 1)), True)
        cuts = [((0,), (2, 1)), ((0, 1), (1, 1)), ((1, 2, 3), (2, 1)), ((2, 3), (HUGE + 1, HUGE))]
        self.assertIs(are_cuts(table, cuts, told(worth_of_cuts(cuts))), False)

    def test_any_lists_against_the_words(self):
        answers = set()
        for seed in range(600):
            source = numbers(seed)
            many = 3 + seed % 4
            table = made_even(many, 8, seed)
            sets = all_cuts(many)
            cuts = [
                (sets[next(source) % len(sets)], told(Fraction(next(source) % 8 - 2, 1 + next(source) % 3)))
                for count in range(next(source) % 5)
            ]
            if next(source) % 6:
                cuts = sorted((some, price if len(some) == 1 else told(abs(Fraction(*price)))) for some, price in cuts)
            answers.add(self.agree(table, cuts, told(worth_of_cuts(cuts))))
        self.assertEqual(answers, {True, False})

    def test_refusals_ahead_of_any_list(self):
        for handed in ([], [None], [((0,), (1, 1))], ["x"], [((1, 0), (1, 0))], [[(0,), (1, 1)]]):
            for worth in ((0, 1), (-7, 3), (HUGE, 7)):
                for table in uneven_tables():
                    with self.assertRaises(NotEven):
                        are_cuts(table, handed, worth)
                for table in even_tables(1, 2):
                    with self.assertRaises(TooFew):
                        are_cuts(table, handed, worth)
                for table in even_tables(7, 8):
                    with self.assertRaises(TooMany):
                        are_cuts(table, handed, worth)


class BestPrices(unittest.TestCase):
    def check(self, table):
        prices = best_prices(table)
        self.assertIs(type(prices), tuple)
        self.assertEqual(len(prices), len(table))
        for price in prices:
            self.assertTrue(is_fraction(price), prices)
        self.assertEqual(hung(table, prices)[0], shares(table)[0], table)

    def test_fit_tables(self):
        for table in fit_tables():
            self.check(table)

    def test_more_tables(self):
        for many in range(3, 7):
            for seed in range(25):
                for top in (1, 4, 10 ** 6):
                    self.check(made_even(many, top, seed))

    def test_prisms(self):
        for seed, order in enumerate(list(permutations(range(6)))[::31]):
            self.check(prism(1 + seed % 4, seed % 3, 9 + seed, order))
            self.check(with_way(with_way(prism(3, 2, 40, order), 0, 1, 4), 1, 0, 4))

    def test_no_prices_have_a_greater_bound(self):
        for table in (made_even(4, 9, 1), FIVE, SIX):
            worth = Fraction(*shares(table)[0])
            best = best_prices(table)
            for seed in range(40):
                source = numbers(seed)
                prices = tuple(told(Fraction(*price) + Fraction(next(source) % 9 - 4, 1 + seed % 3)) for price in best)
                self.assertLessEqual(Fraction(*hung(table, prices)[0]), worth)

    def test_not_even_too_few_too_many(self):
        for table in uneven_tables():
            with self.assertRaises(NotEven):
                best_prices(table)
        for table in even_tables(1, 2):
            with self.assertRaises(TooFew):
                best_prices(table)
        for table in even_tables(7, 8):
            with self.assertRaises(TooMany):
                best_prices(table)


if __name__ == "__main__":
    unittest.main()
