"""What holds of all that is told [2]: nothing is changed, nothing kept, nothing hangs on what was asked ahead."""

import unittest
from copy import deepcopy

from homeround.desk import Desk
from homeround.drawn import is_drawn, table_of, tree_or_four, tree_round
from homeround.errors import NotEven, NotStraight, TooFew, TooMany
from homeround.falling import falling_or_four, pyramid
from homeround.hung import hung
from homeround.moves import are_bettered, bettered, is_move, is_settled
from homeround.nexts import are_outs_ins, circles, nexts
from homeround.puttings import cheapest, far, near, nearest, put_in
from homeround.rings import ring_or_four, ring_order
from homeround.rounds import by_pairs, pairing, walked
from homeround.shares import are_cuts, are_shares, best_prices, shares
from homeround.shortest import do_show, how_many, shortest
from homeround.tables import is_even, is_round, is_straight, is_table, length, shortened, walk
from homeround.texts import read_table, show_table
from homeround.trees import is_least_tree, least_tree
from homeround.webs import closed, is_web, parting, pulled, web_round, web_table
from tests.samples import (
    both_ways, falling_table, is_table_even, made, made_even, on_a_line, one_ring, prism, ring_tables, same_ways,
    some_webs, straightened, tree_tables, with_way,
)

TABLES = [
    made(5, 9, 1), made_even(6, 9, 2), same_ways(4, 1), one_ring(7), ((0,),), on_a_line(5), made_even(6, 10 ** 6, 3),
    made_even(8, 20, 1), ((0, 3), (4, 0)), made_even(4, 2, 5), ((0, 3), (3, 0)),
    prism(3, 2, 40), straightened(made_even(6, 9, 4)), made_even(3, 9, 1), same_ways(8, 3), ring_tables(7)[2][0],
    tree_tables(6)[3][2], tree_tables(8)[5][2], falling_table(6, 9, 1), falling_table(5, 9, 2, True),
]
WEBS = [web for many in range(1, 9) for web in some_webs(many, 6)]
EVEN = [table for table in TABLES if is_table_even(table)]
STRAIGHT = [table for table in EVEN if table == straightened(table) and len(table) > 1]
HUNG = [table for table in EVEN if len(table) > 2]
SHARED = [table for table in HUNG if len(table) < 7]
PRICES = ((1, 2), (-3, 1), (0, 1), (7, 5), (9, 1), (-1, 7), (2, 3), (5, 1))


def answers(table):
    """All that is told of a table."""
    many = len(table)
    round_ = tuple(range(many))
    told = [is_table(table), is_even(table), is_straight(table), is_round(table, round_), length(table, round_)]
    told += [shortened(table), how_many(table), shortest(table)]
    told += [walk(table, one, other) for one in range(many) for other in range(many) if one != other]
    told += [do_show(table, [((0,), 0, 0)], 0), do_show(table, shortest(table)[2], 1)]
    if many > 1:
        told += [nexts(table), are_outs_ins(table, (0,) * many, (0,) * many, 0), circles(nexts(table)[1])]
    told += [nearest(table), cheapest(table), near(table), far(table), put_in(table, round_)]
    told += [is_settled(table, round_), bettered(table, round_), are_bettered(table, bettered(table, round_))]
    told += [are_bettered(table, []), is_move(round_, nearest(table))]
    told += [pyramid(table), falling_or_four(table), show_table(table), read_table(show_table(table))]
    told += desk_answers(table)
    return told + (answers_of_even(table) if table in EVEN else [])


def desk_answers(table):
    """What a new desk answers of a table."""
    desk = Desk()
    rows = ["table " + show_table(table), "even", "straight", "shortest", "near", "pyramid", "round at once", "back"]
    return [desk.say(row) for row in rows]


def answers_of_web(web):
    """All that is told of a web."""
    told = [is_web(web), web_table(web), parting(web), closed(web)]
    if web[0] > 2:
        told.append(web_round(web))
        last, steps = closed(web)
        word, found = web_round(last)
        if word == "round":
            told += [pulled(web, steps, found), pulled(last, [], found)]
    return told


def answers_of_even(table):
    """All that is told of an even table alone."""
    some = tuple(range(len(table) // 2 * 2))
    ties = least_tree(table)[1]
    told = [least_tree(table), is_least_tree(table, ties), is_least_tree(table, [(0, 1)])]
    told += [walked(table, ties), pairing(table, some), pairing(table, ())]
    told += [tree_or_four(table), ring_or_four(table, tuple(range(len(table))))]
    if tree_or_four(table)[0] == "tree":
        drawn = tree_or_four(table)[1]
        told += [tree_round(table), is_drawn(drawn, len(table)), table_of(drawn, len(table))]
    if len(table) < 7:
        told += [ring_order(table)]
    if table in STRAIGHT:
        told += [by_pairs(table)]
    if table in HUNG:
        told += [hung(table, PRICES[:len(table)])]
    if table in SHARED:
        worth, shared, cuts = shares(table)
        told += [(worth, shared, cuts), best_prices(table)]
        told += [are_shares(table, shared, worth), are_cuts(table, cuts, worth)]
        told += [are_shares(table, [], worth), are_cuts(table, [], worth)]
    return told


def told_lists(table):
    """All lists that are told of a table."""
    places = tuple(range(len(table)))
    found = [shortest(table)[2], circles(places[::-1]), put_in(table, places), bettered(table, places)]
    if table in EVEN:
        found += [least_tree(table)[1], pairing(table, places[:2 * (len(places) // 2)])[1], pairing(table, ())[1]]
    if table in STRAIGHT:
        found += by_pairs(table)[1:]
    if table in HUNG:
        found += [hung(table, PRICES[:len(table)])[1]]
    if table in SHARED:
        found += shares(table)[1:]
    return found


class Plain(unittest.TestCase):
    def test_asked_again_behind_others(self):
        first = [deepcopy(answers(table)) for table in TABLES]
        again = [answers(table) for table in reversed(TABLES)]
        self.assertEqual(again[::-1], first)
        self.assertEqual([answers(table) for table in TABLES], first)

    def test_webs_asked_again_behind_others(self):
        first = [deepcopy(answers_of_web(web)) for web in WEBS]
        self.assertEqual([answers_of_web(web) for web in reversed(WEBS)][::-1], first)
        self.assertEqual([answers_of_web(web) for web in WEBS], first)

    def test_a_told_list_of_a_web_is_the_askers_own(self):
        for web in WEBS:
            kept = deepcopy(answers_of_web(web))
            closed(web)[1].append(None)
            closed(web)[1].clear()
            if web[0] > 2 and web_round(web)[0] == "none":
                web_round(web)[1].clear()
                web_round(web)[1].append(None)
            self.assertIsNot(closed(web)[1], closed(web)[1])
            self.assertEqual(answers_of_web(web), kept)

    def test_steps_handed_in_are_neither_changed_nor_kept(self):
        for web in WEBS:
            last, steps = closed(web)
            if web[0] > 2 and web_round(last)[0] == "round":
                kept = list(steps)
                first = pulled(web, steps, web_round(last)[1])
                self.assertEqual(steps, kept)
                steps.clear()
                self.assertEqual(pulled(web, kept, web_round(last)[1]), first)

    def test_the_refusal_told_first_goes_first(self):
        uneven = {many: with_way(same_ways(many, 5), 0, 1, 4) for many in range(2, 9)}
        for many, table in uneven.items():
            deeds = [
                lambda: hung(table, PRICES[:many]), lambda: shares(table), lambda: best_prices(table),
                lambda: are_shares(table, [], (1, 1)), lambda: are_cuts(table, [], (1, 1)), lambda: by_pairs(table),
                lambda: tree_round(table), lambda: ring_order(table),
            ]
            for deed in deeds:
                with self.assertRaises(NotEven):
                    deed()
        with self.assertRaises(NotStraight):
            by_pairs(both_ways(on_a_line(4), 0, 3, 99))
        with self.assertRaises(TooFew):
            by_pairs(((0,),))
        with self.assertRaises(TooMany):
            shares(same_ways(7, 1))

    def test_a_told_list_is_the_askers_own(self):
        for table in TABLES:
            kept = deepcopy(told_lists(table))
            for change in (list.clear, list.reverse, lambda some: some.append(None), lambda some: some.insert(0, "x")):
                for some in told_lists(table):
                    change(some)
                self.assertEqual(told_lists(table), kept)
            for some, other in zip(told_lists(table), told_lists(table)):
                self.assertIs(type(some), list)
                self.assertIsNot(some, other)

    def test_a_list_handed_in_is_not_kept(self):
        table = TABLES[0]
        least, round_, floors = shortest(table)
        self.assertIs(do_show(table, floors, least), True)
        kept = list(floors)
        floors.clear()
        self.assertIs(do_show(table, floors, least), False)
        self.assertIs(do_show(table, kept, least), True)

    def test_lists_handed_in_stay_as_they_were(self):
        things = [[0, [1, (2, [3])]], [(0,), [0]], [[0, 1], [1, 0]], [(2, 3), (1, 2), (0, 1)], [(1, 2), [0, 1], None]]
        kept = deepcopy(things)
        for thing in things:
            is_table(thing)
            is_round(TABLES[0], thing)
            do_show(TABLES[0], thing, 0)
            is_drawn(thing, 3)
            is_web(thing)
            is_web((3, thing))
            for table in EVEN:
                is_least_tree(table, thing)
            for table in SHARED:
                are_shares(table, thing, (1, 1))
                are_cuts(table, thing, (1, 1))
        self.assertEqual(things, kept)

    def test_shares_handed_in_are_neither_changed_nor_kept(self):
        for table in SHARED:
            worth, shared, cuts = shares(table)
            for ask, some in ((are_shares, shared), (are_cuts, cuts)):
                for handed in (some, some[::-1], some[1:]):
                    kept = list(handed)
                    first = ask(table, handed, worth)
                    self.assertEqual(handed, kept)
                    self.assertIs(ask(table, handed, worth), first)
                some.append(None)
                self.assertIs(ask(table, some, worth), False)

    def test_rounds_handed_in_are_neither_changed_nor_kept(self):
        for table in TABLES:
            some = bettered(table, tuple(range(len(table))))
            for handed, expected in ((some, True), (some[::-1], len(some) == 1), (some[:-1], False)):
                kept = list(handed)
                self.assertIs(are_bettered(table, handed), expected)
                self.assertEqual(handed, kept)
            some.clear()
            self.assertIs(are_bettered(table, some), False)

    def test_a_tree_handed_in_is_neither_changed_nor_kept(self):
        for table in EVEN:
            ties = least_tree(table)[1]
            kept = list(ties)
            walked(table, ties)
            self.assertEqual(ties, kept)
            turned = ties[::-1]
            for some in (ties, turned):
                kept = list(some)
                first = is_least_tree(table, some)
                self.assertEqual(some, kept)
                self.assertIs(is_least_tree(table, some), first)
            ties.append((0, 1))
            self.assertIs(is_least_tree(table, ties), False)


if __name__ == "__main__":
    unittest.main()
