"""Stage 12: webs [22], [23], [24]."""

import unittest
from copy import deepcopy
from itertools import combinations

from homeround.errors import TooFew
from homeround.shortest import do_show
from homeround.webs import closed, is_web, parting, pulled, web_round, web_table
from tests.samples import (
    HUGE, STRANGE, all_ties, all_webs, do_tie_together, numbers, really_show, sample_webs, some_webs, tied_table,
    web_rounds,
)

# Without one place two parts, without two three, without three four; the last one has no parting, and no round either.
BOW = (5, ((0, 1), (0, 2), (1, 2), (2, 3), (2, 4), (3, 4)))
TWO_OF_FIVE = (5, ((0, 1), (0, 2), (0, 3), (1, 4), (2, 4), (3, 4)))
THREE_OF_SEVEN = (7, tuple((i, j) for i in range(3) for j in range(3, 7)))
TOUGH = (7, ((0, 1), (0, 2), (0, 3), (0, 5), (1, 2), (1, 4), (2, 6), (3, 4), (3, 5), (3, 6)))


def really_web(thing):
    """Whether a thing is a web, word by word as the document says it."""
    if type(thing) is not tuple or len(thing) != 2 or type(thing[0]) is not int or type(thing[1]) is not tuple:
        return False
    many, ties = thing
    for tie in ties:
        if type(tie) is not tuple or len(tie) != 2 or type(tie[0]) is not int or type(tie[1]) is not int:
            return False
    return 1 <= many <= 8 and all(tie in all_ties(many) for tie in ties) and list(ties) == sorted(set(ties))


def how_many_parts(places, ties):
    """How many parts places make by the ties among them."""
    parts = {place: place for place in places}
    for i, j in ties:
        if i in parts and j in parts:
            old, new = parts[i], parts[j]
            parts = {place: new if part == old else part for place, part in parts.items()}
    return len(set(parts.values()))


def does_part(web, some):
    many, ties = web
    return how_many_parts([place for place in range(many) if place not in some], ties) > len(some)


def some_parting(web):
    """Some tuple of places that parts a web, or None."""
    for size in range(1, web[0] + 1):
        for some in combinations(range(web[0]), size):
            if does_part(web, some):
                return some
    return None


def ties_at(ties, place):
    return len([tie for tie in ties if place in tie])


def steps_that_may_come(many, ties):
    return [
        (i, j) for i, j in all_ties(many)
        if (i, j) not in ties and ties_at(ties, i) + ties_at(ties, j) >= many
    ]


def closed_by_chance(web, seed):
    """The steps by which a web is closed, drawn each time out of those that may come."""
    many, ties = web
    source = numbers(seed)
    steps = []
    may = steps_that_may_come(many, ties)
    while may:
        steps.append(may[next(source) % len(may)])
        may = steps_that_may_come(many, ties + tuple(steps))
    return steps


def with_ties(web, steps):
    return (web[0], tuple(sorted(web[1] + tuple(steps))))


class IsWeb(unittest.TestCase):
    def check(self, thing):
        kept = deepcopy(thing)
        expected = really_web(thing)
        self.assertIs(is_web(thing), expected, thing)
        self.assertEqual(thing, kept)
        return expected

    def test_webs(self):
        for web in sample_webs():
            self.assertIs(is_web(web), True)
            self.assertIs(self.check(web), True)

    def test_how_many(self):
        for many in range(1, 9):
            self.assertIs(is_web((many, ())), True)
        for many in (0, 9, -1, 10, HUGE, -HUGE, True, False, None, "1", "", (1,), [1], ()):
            self.assertIs(is_web((many, ())), False)
            self.assertIs(is_web((many, ((0, 1),))), False)

    def test_ends(self):
        self.assertIs(is_web((3, ((0, 1), (1, 2)))), True)
        wrong = [
            (0, 0), (1, 1), (2, 2), (1, 0), (2, 1), (2, 0), (0, 3), (2, 3), (3, 4), (-1, 0), (-1, 1), (-2, -1),
            (0, HUGE), (-HUGE, 1), (True, 2), (0, True), (False, 1), (False, True), (None, 1), (0, None), ("0", 1),
            (0, "1"), ((0,), 1), (0, (1,)), (0,), (1,), (), (0, 1, 2), [0, 1], [0, 2], [1, 2], 0, 1, None, "01", True,
        ]
        for tie in wrong:
            for ties in ((tie,), ((0, 1), tie), (tie, (1, 2)), ((0, 1), tie, (1, 2))):
                self.assertIs(is_web((3, ties)), False, ties)

    def test_a_tie_beyond(self):
        for many in range(1, 9):
            self.assertIs(is_web((many, ((0, many),))), False)
            self.assertIs(is_web((many, ((many - 1, many),))), False)
            if many > 1:
                self.assertIs(is_web((many, ((0, many - 1),))), True)

    def test_twice_and_out_of_order(self):
        for many, ties in sample_webs():
            for at in range(len(ties)):
                self.assertIs(is_web((many, ties[:at] + ties[at:at + 1] + ties[at:])), False)
                self.assertIs(is_web((many, ties + ties[at:at + 1])), False)
                self.assertIs(is_web((many, ties[:at] + (ties[at][::-1],) + ties[at + 1:])), False)
                self.assertIs(is_web((many, ties[:at] + ties[at + 1:])), True)
            for at in range(len(ties) - 1):
                self.assertIs(is_web((many, ties[:at] + (ties[at + 1], ties[at]) + ties[at + 2:])), False)

    def test_lists_for_tuples(self):
        many, ties = BOW
        self.assertIs(is_web(BOW), True)
        self.check([many, ties])
        self.check((many, list(ties)))
        for at, tie in enumerate(ties):
            self.check((many, ties[:at] + (list(tie),) + ties[at + 1:]))
        self.assertIs(is_web([many, ties]), False)
        self.assertIs(is_web((many, list(ties))), False)
        self.assertIs(is_web((1, [])), False)
        self.assertIs(is_web([1, ()]), False)

    def test_a_thing_more_or_fewer(self):
        many, ties = BOW
        things = [(many,), (ties,), (many, ties, ()), (many, ties, many), (ties, many), (many, many), (), (ties, ties)]
        for thing in things:
            self.assertIs(self.check(thing), False)
        self.assertIs(is_web((many,) + ties), False)

    def test_strange_things(self):
        for thing in STRANGE:
            self.check(thing)
            self.check((3, thing))
            self.check((thing, ()))
            self.check((3, (thing,)))
            self.check((3, ((0, 1), thing)))
            self.check((thing, thing))
        self.assertIs(is_web((1, ())), True)


class WebTable(unittest.TestCase):
    def test_webs(self):
        for many, ties in sample_webs():
            told = web_table((many, ties))
            self.assertEqual(told, tied_table(many, ties))
            self.assertIs(type(told), tuple)
            for row in told:
                self.assertIs(type(row), tuple)
                for way in row:
                    self.assertIs(type(way), int)

    def test_by_hand(self):
        self.assertEqual(web_table((1, ())), ((0,),))
        self.assertEqual(web_table((2, ())), ((0, 1), (1, 0)))
        self.assertEqual(web_table((2, ((0, 1),))), ((0, 0), (0, 0)))
        self.assertEqual(web_table((3, ((0, 2),))), ((0, 1, 0), (1, 0, 1), (0, 1, 0)))


class WebRound(unittest.TestCase):
    def check(self, web):
        told = web_round(web)
        self.assertIs(type(told), tuple)
        word, found = told
        rounds = web_rounds(web)
        if rounds:
            self.assertEqual(word, "round")
            self.assertIs(type(found), tuple)
            self.assertIn(found, rounds)
        else:
            self.assertEqual(word, "none")
            self.assertIs(type(found), list)
            self.assertTrue(really_show(tied_table(*web), found, 1))
            self.assertIs(do_show(web_table(web), found, 1), True)
        return word

    def test_webs(self):
        words = [self.check(web) for web in sample_webs() if web[0] > 2]
        self.assertGreater(words.count("round"), 50)
        self.assertGreater(words.count("none"), 50)

    def test_rings_and_stars(self):
        for many in range(3, 9):
            ring = tuple(tie for tie in all_ties(many) if tie[1] - tie[0] in (1, many - 1))
            self.assertEqual(self.check((many, ring)), "round")
            for at in range(many):
                self.assertEqual(self.check((many, ring[:at] + ring[at + 1:])), "none")
            star = tuple((0, place) for place in range(1, many))
            self.assertEqual(self.check((many, star)), "none")

    def test_by_hand(self):
        for web in (BOW, TWO_OF_FIVE, THREE_OF_SEVEN):
            self.assertEqual(self.check(web), "none")
        self.assertEqual(self.check((3, ((0, 1), (0, 2), (1, 2)))), "round")

    def test_refused(self):
        for web in ((1, ()), (2, ()), (2, ((0, 1),))):
            with self.assertRaises(TooFew):
                web_round(web)


class Parting(unittest.TestCase):
    def check(self, web):
        told = parting(web)
        if told is None:
            self.assertIsNone(some_parting(web), web)
        else:
            self.assertIs(type(told), tuple)
            for place in told:
                self.assertIs(type(place), int)
            self.assertIn(told, [some for size in range(1, 9) for some in combinations(range(web[0]), size)])
            self.assertTrue(does_part(web, told), (web, told))
            if web[0] > 2:
                self.assertEqual(web_rounds(web), [])
        return told

    def test_webs(self):
        found = [self.check(web) for web in sample_webs()]
        self.assertGreater(found.count(None), 50)
        self.assertGreater(len(found) - found.count(None), 50)

    def test_all_webs_of_five_places(self):
        for web in all_webs(5):
            self.check(web)

    def test_by_hand(self):
        self.assertEqual(self.check(BOW), (2,))
        self.assertEqual(self.check(TWO_OF_FIVE), (0, 4))
        self.assertEqual(self.check(THREE_OF_SEVEN), (0, 1, 2))

    def test_few_places(self):
        self.assertIsNone(parting((1, ())))
        self.assertIsNone(parting((2, ())))
        self.assertIsNone(parting((2, ((0, 1),))))
        self.assertIsNotNone(self.check((3, ())))
        self.assertEqual(self.check((3, ((0, 1), (1, 2)))), (1,))
        self.assertIsNone(parting((3, ((0, 1), (0, 2), (1, 2)))))

    def test_without_ties_and_of_parts_apart(self):
        for many in range(3, 9):
            self.assertIsNotNone(self.check((many, ())))
            halves = tuple((i, j) for i, j in all_ties(many) if (i < many // 2) == (j < many // 2))
            self.assertIsNotNone(self.check((many, halves)))

    def test_stars(self):
        for many in range(3, 9):
            for middle in range(many):
                star = tuple(sorted((min(middle, k), max(middle, k)) for k in range(many) if k != middle))
                self.assertEqual(self.check((many, star)), (middle,))

    def test_many_places_part_alone(self):
        # Three places of eight tied to all others, which are not tied: only these three do part it.
        web = (8, tuple((i, j) for i, j in all_ties(8) if i < 3))
        self.assertEqual(self.check(web), (0, 1, 2))
        web = (8, tuple((i, j) for i, j in all_ties(8) if j > 4))
        self.assertEqual(self.check(web), (5, 6, 7))

    def test_no_round_and_no_parting(self):
        self.assertIsNone(self.check(TOUGH))
        self.assertEqual(web_round(TOUGH)[0], "none")
        self.assertEqual(web_rounds(TOUGH), [])


class Closed(unittest.TestCase):
    def check(self, web):
        told = closed(web)
        self.assertIs(type(told), tuple)
        last, steps = told
        self.assertTrue(really_web(last), last)
        self.assertIs(type(steps), list)
        ties = web[1]
        for step in steps:
            self.assertIs(type(step), tuple)
            self.assertIn(step, steps_that_may_come(web[0], ties))
            ties += (step,)
        self.assertEqual(steps_that_may_come(web[0], ties), [])
        self.assertEqual(last, (web[0], tuple(sorted(ties))))
        return told

    def test_webs(self):
        lengths = [len(self.check(web)[1]) for web in sample_webs()]
        self.assertIn(0, lengths)
        self.assertGreater(max(lengths), 5)

    def test_whichever_comes_first(self):
        for web in sample_webs():
            last = closed(web)[0]
            for seed in range(4):
                self.assertEqual(with_ties(web, closed_by_chance(web, seed)), last)

    def test_a_closed_one(self):
        for web in sample_webs():
            last = closed(web)[0]
            self.assertEqual(closed(last), (last, []))

    def test_few_places(self):
        for web in ((1, ()), (2, ()), (2, ((0, 1),)), (3, ()), (3, ((0, 1), (1, 2)))):
            self.assertEqual(self.check(web), (web, []))

    def test_just_as_many_ties(self):
        # Two places with four ties together out of four places are tied, with three they are not.
        self.assertEqual(self.check((4, ((0, 1), (0, 2), (1, 3), (2, 3))))[0], (4, tuple(all_ties(4))))
        self.assertEqual(self.check((4, ((0, 1), (1, 2), (2, 3))))[1], [])
        self.assertEqual(self.check((4, ((0, 1), (0, 2), (1, 3))))[1], [])
        # One step makes room for the next one.
        self.assertEqual(len(self.check((5, ((0, 1), (0, 2), (0, 4), (1, 2), (1, 3), (2, 3), (3, 4))))[1]), 3)

    def test_a_new_list_each_time(self):
        web = (4, ((0, 1), (0, 2), (1, 3), (2, 3)))
        steps = closed(web)[1]
        kept = list(steps)
        steps.clear()
        self.assertEqual(closed(web)[1], kept)


class Pulled(unittest.TestCase):
    def check(self, web, steps, round_):
        kept = list(steps)
        told = pulled(web, steps, round_)
        self.assertEqual(steps, kept)
        self.assertIs(type(told), tuple)
        self.assertIn(told, web_rounds(web), (web, steps, round_))

    def test_few_places(self):
        seen = 0
        for many in (3, 4, 5):
            for web in all_webs(many)[::many - 2]:
                for seed in range(2):
                    steps = closed_by_chance(web, seed)
                    for size in range(len(steps) + 1):
                        for round_ in web_rounds(with_ties(web, steps[:size])):
                            self.check(web, steps[:size], round_)
                            seen += size > 0
        self.assertGreater(seen, 100)

    def test_more_places(self):
        seen = 0
        for many, how_many in ((6, 30), (7, 16), (8, 10)):
            for web in some_webs(many, how_many):
                steps = closed_by_chance(web, many)
                own = set(web_rounds(web))
                for some in (steps, steps[:len(steps) // 2], closed(web)[1]):
                    rounds = web_rounds(with_ties(web, some))
                    self.assertEqual(bool(rounds), bool(own))
                    for round_ in rounds[::1 + len(rounds) // 25]:
                        told = pulled(web, some, round_)
                        self.assertIn(told, own)
                        seen += len(some) > 0
        self.assertGreater(seen, 300)

    def test_without_steps(self):
        for web in sample_webs():
            if web[0] > 2:
                for round_ in web_rounds(web)[:20]:
                    self.assertEqual(pulled(web, [], round_), round_)

    def test_by_hand(self):
        web = (4, ((0, 1), (0, 2), (1, 3), (2, 3)))
        self.assertIn(pulled(web, [(0, 3), (1, 2)], (0, 3, 1, 2)), ((0, 1, 3, 2), (0, 2, 3, 1)))
        self.assertIn(pulled(web, [(1, 2), (0, 3)], (0, 3, 2, 1)), ((0, 1, 3, 2), (0, 2, 3, 1)))
        self.assertIn(pulled(web, [(1, 2)], (0, 2, 3, 1)), ((0, 1, 3, 2), (0, 2, 3, 1)))

    def test_a_web_has_a_round_just_where_its_closed_one_has_one(self):
        for web in sample_webs():
            if web[0] > 2:
                last, steps = closed(web)
                word, found = web_round(last)
                self.assertEqual(web_round(web)[0], word)
                if word == "round":
                    self.check(web, steps, found)

    def test_parts_hang_together(self):
        for web in sample_webs():
            if web[0] > 2 and web_round(web)[0] == "round":
                self.assertTrue(do_tie_together(range(web[0]), web[1]))


if __name__ == "__main__":
    unittest.main()
