"""What holds of all that is told [2]: nothing is changed, nothing kept, nothing hangs on what was asked ahead."""

import unittest
from copy import deepcopy

from homeround.shortest import do_show, how_many, shortest
from homeround.tables import is_even, is_round, is_straight, is_table, length, shortened, walk
from tests.samples import made, made_even, one_ring, same_ways

TABLES = [made(5, 9, 1), made_even(6, 9, 2), same_ways(4, 1), one_ring(7), ((0,),)]


def answers(table):
    """All that is told of a table."""
    many = len(table)
    round_ = tuple(range(many))
    told = [is_table(table), is_even(table), is_straight(table), is_round(table, round_), length(table, round_)]
    told += [shortened(table), how_many(table), shortest(table)]
    told += [walk(table, one, other) for one in range(many) for other in range(many) if one != other]
    told += [do_show(table, [((0,), 0, 0)], 0), do_show(table, shortest(table)[2], 1)]
    return told


class Plain(unittest.TestCase):
    def test_asked_again_behind_others(self):
        first = [deepcopy(answers(table)) for table in TABLES]
        again = [answers(table) for table in reversed(TABLES)]
        self.assertEqual(again[::-1], first)
        self.assertEqual([answers(table) for table in TABLES], first)

    def test_a_told_list_is_the_askers_own(self):
        for table in TABLES:
            floors = shortest(table)[2]
            kept = list(floors)
            floors[0] = "changed"
            floors.append(None)
            again = shortest(table)[2]
            self.assertEqual(again, kept)
            self.assertIsNot(again, floors)
            again.clear()
            self.assertEqual(shortest(table)[2], kept)

    def test_a_list_handed_in_is_not_kept(self):
        table = TABLES[0]
        least, round_, floors = shortest(table)
        self.assertIs(do_show(table, floors, least), True)
        kept = list(floors)
        floors.clear()
        self.assertIs(do_show(table, floors, least), False)
        self.assertIs(do_show(table, kept, least), True)

    def test_lists_handed_in_stay_as_they_were(self):
        things = [[0, [1, (2, [3])]], [(0,), [0]], [[0, 1], [1, 0]]]
        kept = deepcopy(things)
        for thing in things:
            is_table(thing)
            is_round(TABLES[0], thing)
            do_show(TABLES[0], thing, 0)
        self.assertEqual(things, kept)


if __name__ == "__main__":
    unittest.main()
