"""Stage 13: the desk [26]."""

import re
import unittest

from homeround.desk import Desk
from homeround.drawn import tree_or_four
from homeround.errors import NoBack, NoRow, NotEven, NoText, RoundError, TooFew, TooMany
from homeround.falling import falling_or_four, pyramid
from homeround.nexts import nexts
from homeround.puttings import cheapest, far, near, nearest
from homeround.rings import ring_or_four
from homeround.shares import shares
from homeround.shortest import shortest
from homeround.tables import is_even, is_straight, length
from homeround.texts import read_table, show_table
from homeround.trees import least_tree
from tests.samples import (
    all_rounds, even_tables, falling_tables, made, made_even, numbers, on_a_line, one_ring, prism, ring_tables,
    same_ways, sample_tables, straight_tables, tree_tables, uneven_tables, with_way,
)

ASKED = (
    "even", "straight", "shortest", "nexts", "tree", "shares", "nearest", "cheapest", "near", "far", "pyramid",
    "round at once",
)
WRONG_TEXTS = (
    "", " ", "1", "0 ", " 0", "0 1", "0 1 / 1", "0 1 / 1 0 /", "0 01 / 1 0", "0\t1 / 1 0", "0 1 / 1 0\n", "0 /",
    "0 1 /  1 0", "0 1 / 1 2", "x", "0 1000001 / 1 0", "0 1 / 1 0 ", "  0", "table 0", "0 1 2 3 4 5 6 7 8",
)


def shape(table):
    """What is told at once of a table, by all rounds tried and the shapes in their order."""
    least = min(length(table, round_) for round_ in all_rounds(len(table)))
    if table == tuple(zip(*table)):
        if tree_or_four(table)[0] == "tree":
            return f"tree {least}"
        if ring_or_four(table, tuple(range(len(table)))) == ("ring",):
            return f"ring {least}"
    return f"falling {least}" if falling_or_four(table) == ("falling",) else "no"


def answer_to(table, row):
    """What the functions tell of a table, as a text."""
    if row in ("even", "straight"):
        return "yes" if {"even": is_even, "straight": is_straight}[row](table) else "no"
    if row == "shares":
        return "{}/{}".format(*shares(table)[0])
    if row in ("nearest", "cheapest", "near", "far"):
        makers = {"nearest": nearest, "cheapest": cheapest, "near": near, "far": far}
        return " ".join(str(place) for place in makers[row](table))
    if row == "round at once":
        return shape(table)
    return str({"shortest": shortest, "nexts": nexts, "tree": least_tree, "pyramid": pyramid}[row](table)[0])


class Model:
    """A desk that goes by patterns, and keeps each table that stood."""

    def __init__(self):
        self.stood = []

    def say(self, row):
        if row.startswith("table "):
            try:
                self.stood.append(read_table(row[6:]))
            except NoText as wrong:
                raise NoText(wrong.at + 1) from None
            return "ok"
        if row == "back":
            if not self.stood:
                raise NoBack("")
            self.stood.pop()
            return "ok"
        if not self.stood:
            raise NoRow("")
        return self.answer(row, self.stood[-1])

    def answer(self, row, table):
        if row in ASKED:
            return answer_to(table, row)
        places = f"[0-{len(table) - 1}]"
        if re.fullmatch(f"way {places} {places} (0|[1-9][0-9]*)", row):
            i, j, way = map(int, row.split(" ")[1:])
            if i != j and way <= 10 ** 6:
                self.stood.append(with_way(table, i, j, way))
                return "ok"
        if re.fullmatch(f"length( {places})+", row):
            round_ = tuple(map(int, row.split(" ")[1:]))
            if round_ in all_rounds(len(table)):
                return str(length(table, round_))
        raise NoRow("")


def outcome(desk, row):
    """The answer of a desk, or its refusal with what it says of the spot."""
    try:
        return desk.say(row)
    except RoundError as wrong:
        return type(wrong), getattr(wrong, "at", None)


def desk_with(table):
    desk = Desk()
    assert desk.say("table " + show_table(table)) == "ok"
    return desk


def standing(desk, many):
    """What the table that stands at a desk is, as far as its rounds and nexts tell it."""
    rounds = ["length " + " ".join(map(str, round_)) for round_ in all_rounds(many)]
    return [desk.say(row) for row in rounds + ["nexts", "nearest", "pyramid", "even", "straight"]]


class Answers(unittest.TestCase):
    def check(self, table):
        desk, model = desk_with(table), Model()
        model.stood.append(table)
        for row in ASKED:
            self.assertEqual(outcome(desk, row), outcome(model, row), (table, row))
        for round_ in all_rounds(len(table))[::1 + len(all_rounds(len(table))) // 6]:
            row = "length " + " ".join(map(str, round_))
            told = desk.say(row)
            self.assertEqual(told, str(length(table, round_)))
            self.assertIs(type(told), str)

    def test_tables(self):
        for table in sample_tables(7):
            self.check(table)

    def test_eight_places(self):
        for table in (made(8, 9, 1), made_even(8, 9, 2), on_a_line(8), same_ways(8, 10 ** 6)):
            self.check(table)

    def test_by_hand(self):
        desk = Desk()
        self.assertEqual(desk.say("table 0 1 4 5 / 1 0 2 6 / 4 2 0 3 / 5 6 3 0"), "ok")
        for row, told in (
            ("even", "yes"), ("straight", "no"), ("shortest", "11"), ("length 0 1 2 3", "11"), ("length 0 2 1 3", "17"),
            ("nexts", "8"), ("tree", "6"), ("shares", "11/1"), ("nearest", "0 1 2 3"), ("cheapest", "0 3 2 1"),
            ("pyramid", "11"), ("round at once", "ring 11"), ("way 3 0 1", "ok"), ("even", "no"), ("shortest", "7"),
            ("back", "ok"), ("shortest", "11"), ("back", "ok"),
        ):
            self.assertEqual(desk.say(row), told, row)

    def test_shares_in_fractions(self):
        found = set()
        for many in (3, 4, 5, 6):
            for seed in range(15):
                table = made_even(many, 9, seed)
                top, bottom = shares(table)[0]
                told = desk_with(table).say("shares")
                self.assertEqual(told, f"{top}/{bottom}")
                found.add(told.split("/")[1])
        for table in (prism(3, 2, 40), prism(5, 3, 8)):
            self.assertEqual(desk_with(table).say("shares"), "{}/{}".format(*shares(table)[0]))
        self.assertIn("1", found)

    def test_one_place(self):
        desk = Desk()
        self.assertEqual(desk.say("table 0"), "ok")
        for row, told in (
            ("even", "yes"), ("straight", "yes"), ("shortest", "0"), ("length 0", "0"), ("tree", "0"), ("nearest", "0"),
            ("cheapest", "0"), ("near", "0"), ("far", "0"), ("pyramid", "0"), ("round at once", "tree 0"),
        ):
            self.assertEqual(desk.say(row), told)
        for row, wrong in (("nexts", TooFew), ("shares", TooFew), ("way 0 0 1", NoRow), ("way 0 1 1", NoRow)):
            with self.assertRaises(wrong):
                desk.say(row)


class RoundAtOnce(unittest.TestCase):
    def check(self, table):
        told = desk_with(table).say("round at once")
        self.assertEqual(told, shape(table), table)
        return told.split(" ")[0]

    def test_shapes(self):
        tables = [table for many, drawn, table in tree_tables(1, 7)] + [table for table, order in ring_tables(1, 7)]
        tables += falling_tables(1, 7) + sample_tables(6) + even_tables(1, 6) + straight_tables(1, 6)
        words = [self.check(table) for table in tables]
        self.assertEqual(set(words), {"tree", "ring", "falling", "no"})

    def test_the_first_of_several(self):
        # On a line a table is a tree's, a ring table and falling.
        self.assertEqual(desk_with(on_a_line(5)).say("round at once"), "tree 40")
        square = ((0, 1, 2, 1), (1, 0, 1, 2), (2, 1, 0, 1), (1, 2, 1, 0))
        self.assertEqual(desk_with(square).say("round at once"), "ring 4")
        # A ring table by another order alone is none here.
        crossed = ((0, 2, 1, 1), (2, 0, 1, 1), (1, 1, 0, 2), (1, 1, 2, 0))
        self.assertEqual(desk_with(crossed).say("round at once"), "no")

    def test_ring_and_falling(self):
        both = [
            table for table in falling_tables(4, 7)
            if is_even(table) and tree_or_four(table)[0] == "four"
            and ring_or_four(table, tuple(range(len(table)))) == ("ring",)
        ]
        self.assertTrue(both)
        for table in both:
            self.assertEqual(self.check(table), "ring")

    def test_uneven_ones(self):
        words = [self.check(table) for table in uneven_tables(6) + falling_tables(2, 6) if not is_even(table)]
        self.assertEqual(set(words), {"falling", "no"})
        # Each way round of it is a ring, but it is not even.
        self.assertEqual(desk_with(one_ring(4)).say("round at once"), "no")


class Refusals(unittest.TestCase):
    def refuse(self, desk, row, wrong):
        with self.assertRaises(wrong) as caught:
            desk.say(row)
        self.assertIs(type(caught.exception), wrong)
        return caught.exception

    def test_what_the_points_tell(self):
        uneven = desk_with(with_way(same_ways(4, 5), 0, 1, 6))
        self.refuse(uneven, "tree", NotEven)
        self.refuse(uneven, "shares", NotEven)
        for many in (7, 8):
            self.refuse(desk_with(with_way(same_ways(many, 5), 0, 1, 6)), "shares", NotEven)
            self.refuse(desk_with(same_ways(many, 5)), "shares", TooMany)
        for many in (1, 2):
            self.refuse(desk_with(same_ways(many, 5)), "shares", TooFew)
        self.refuse(desk_with(((0, 1), (2, 0))), "shares", NotEven)
        self.refuse(desk_with(((0,),)), "nexts", TooFew)

    def test_no_table_stands(self):
        desk = Desk()
        rows = list(ASKED) + ["way 0 1 5", "length 0", "table", "x", "", "length 0 1", "tables 0", " ", "Table 0"]
        for row in rows:
            self.refuse(desk, row, NoRow)
        self.refuse(desk, "back", NoBack)
        self.assertEqual(desk.say("table 0"), "ok")
        self.assertEqual(desk.say("back"), "ok")
        for row in rows:
            self.refuse(desk, row, NoRow)
        self.refuse(desk, "back", NoBack)

    def test_no_row(self):
        table = made_even(4, 9, 1)
        desk = desk_with(table)
        rows = ["", " ", "\t", "\n", "x", "0", "/", "none", "quit", "round", "round at", "at once", "ok", "table"]
        for row in ASKED + ("back", "length 0 1 2 3", "way 0 1 5"):
            rows += [row + " ", " " + row, row + "\n", "\n" + row, row + "\t", "\t" + row, row + " x", "x " + row]
            rows += [row.upper(), row.title(), row[:-1], row + "s", row + " 0", row + " " + row, "_" + row]
            if " " in row:
                rows += [row.replace(" ", "  ", 1), row.replace(" ", "\t", 1), row.replace(" ", "\n", 1)]
                rows += [row.replace(" ", "", 1), " ".join(row.split(" ")[::-1]), row.split(" ")[0]]
        rows += ["TABLE 0", "Table 0", "table\t0", "table\n0", " table 0", "table0", "x table 0"]
        for row in rows:
            self.refuse(desk, row, NoRow)
        self.assertEqual(standing(desk, 4), standing(desk_with(table), 4))

    def test_no_way(self):
        table = made_even(4, 9, 1)
        desk = desk_with(table)
        for words in (
            "0 0 5", "3 3 0", "0 4 5", "4 0 5", "-1 0 5", "0 -1 5", "00 1 5", "0 01 5", "0 1 05", "0 1 00", "0 1 -1",
            "0 1 1000001", "0 1 10000000", "0 1 x", "x 1 5", "0 x 5", "0 1", "0", "", "0 1 5 6", "0 1 5 ", " 0 1 5",
            "0  1 5", "0 1  5", "0 1 5\n", "0 1 +5", "0 1 5.0", "+0 1 5", "0 1 " + "9" * 5000, "0 10 5", "0 8 1",
            "8 0 1", "0\t1 5", "0 1 \t5", "0 1 1_0", "True 0 1", "0 1 1e3", "0 1 5/1", "0 1 \u0665", "\u0660 1 5",
            "0 \u00b9 5",
        ):
            self.refuse(desk, "way " + words, NoRow)
        self.assertEqual(standing(desk, 4), standing(desk_with(table), 4))
        self.assertEqual(desk.say("back"), "ok")
        self.refuse(desk, "back", NoBack)

    def test_no_round(self):
        desk = desk_with(made_even(4, 9, 1))
        for words in (
            "", "0", "0 1", "0 1 2", "0 1 2 3 4", "0 1 2 4", "1 0 2 3", "0 1 1 3", "0 0 1 2 3", "0 1 2 3 0", "0 1 2 03",
            "00 1 2 3", "0 1 2 3 ", " 0 1 2 3", "0  1 2 3", "0 1 2 -3", "0 1 2 x", "0,1,2,3", "(0, 1, 2, 3)",
            "0 1 2\t3", "0 1 2 3\n", "0 1 2 +3", "3 2 1 0", "0 1 2 \u0663", "0123", "0 1 2 3 x",
        ):
            self.refuse(desk, "length " + words, NoRow)
        self.refuse(desk, "length", NoRow)

    def test_no_text(self):
        for desk in (Desk(), desk_with(made(3, 9, 1))):
            for text in WRONG_TEXTS:
                with self.assertRaises(NoText) as caught:
                    read_table(text)
                at = caught.exception.at
                self.assertEqual(self.refuse(desk, "table " + text, NoText).at, at + 1)
            self.assertEqual(self.refuse(desk, "table ", NoText).at, 1)
            self.assertEqual(self.refuse(desk, "table  0", NoText).at, 1)
            self.assertEqual(self.refuse(desk, "table 0 1 / 1", NoText).at, 5)
            self.assertEqual(self.refuse(desk, "table 0 1 / 1 0 0", NoText).at, 6)
            self.refuse(desk, "table", NoRow)


class Standing(unittest.TestCase):
    def test_ways(self):
        table = made(4, 9, 3)
        for i in range(4):
            for j in range(4):
                for way in (0, 7, 999999, 10 ** 6):
                    if i != j:
                        desk = desk_with(table)
                        self.assertEqual(desk.say(f"way {i} {j} {way}"), "ok")
                        self.assertEqual(standing(desk, 4), standing(desk_with(with_way(table, i, j, way)), 4))
                        self.assertEqual(desk.say("back"), "ok")
                        self.assertEqual(standing(desk, 4), standing(desk_with(table), 4))

    def test_back(self):
        desk = Desk()
        self.assertEqual(outcome(desk, "back")[0], NoBack)
        rows = [
            "table 0 1 / 1 0", "way 0 1 5", "way 1 0 7", "way 1 0 7", "table 0 2 2 / 2 0 2 / 2 2 0", "way 0 2 1",
            "table 0", "table 0", "table 0 4 / 4 0",
        ]
        told = []
        for row in rows:
            self.assertEqual(desk.say(row), "ok")
            told.append(desk.say("shortest"))
        self.assertEqual(told, ["2", "6", "12", "12", "6", "5", "0", "0", "8"])
        for number in told[-2::-1]:
            self.assertEqual(desk.say("back"), "ok")
            self.assertEqual(desk.say("shortest"), number)
        self.assertEqual(desk.say("back"), "ok")
        for time in range(3):
            self.assertEqual(outcome(desk, "back")[0], NoBack)
            self.assertEqual(outcome(desk, "shortest")[0], NoRow)
        self.assertEqual(desk.say("table 0 1 / 2 0"), "ok")
        self.assertEqual(desk.say("shortest"), "3")

    def test_on_from_where_one_went_back(self):
        desk = desk_with(((0, 1), (1, 0)))
        desk.say("way 0 1 5")
        desk.say("back")
        desk.say("way 1 0 9")
        self.assertEqual(desk.say("shortest"), "10")
        desk.say("back")
        self.assertEqual(desk.say("shortest"), "2")
        desk.say("back")
        self.assertEqual(outcome(desk, "back")[0], NoBack)

    def test_what_is_asked_is_nothing_to_go_back_behind(self):
        desk = desk_with(made_even(4, 9, 2))
        for row in ASKED + ("length 0 1 2 3",):
            desk.say(row)
        self.assertEqual(desk.say("back"), "ok")
        self.assertEqual(outcome(desk, "back")[0], NoBack)

    def test_what_is_refused_changes_nothing(self):
        table = with_way(made(3, 9, 2), 0, 1, 4)
        desk = desk_with(((0, 1), (2, 0)))
        desk.say("table " + show_table(table))
        before = standing(desk, 3)
        refused = ["table " + text for text in WRONG_TEXTS] + ["tree", "shares", "way 0 0 1", "way 0 3 1", "back ", "x"]
        refused += ["length 0 1", "way 0 1 1000001", "table", "Back", "way 0 1"]
        for row in refused:
            self.assertIs(type(outcome(desk, row)), tuple, row)
            self.assertEqual(standing(desk, 3), before)
        self.assertEqual(desk.say("back"), "ok")
        self.assertEqual(desk.say("shortest"), "3")
        self.assertEqual(desk.say("back"), "ok")
        self.assertEqual(outcome(desk, "back")[0], NoBack)

    def test_two_desks_by_turns(self):
        one, other = Desk(), Desk()
        self.assertEqual(one.say("table 0 1 / 1 0"), "ok")
        self.assertEqual(outcome(other, "shortest")[0], NoRow)
        self.assertEqual(outcome(other, "back")[0], NoBack)
        self.assertEqual(other.say("table 0 1 / 1 0"), "ok")
        self.assertEqual(other.say("way 0 1 8"), "ok")
        self.assertEqual(one.say("shortest"), "2")
        self.assertEqual(other.say("shortest"), "9")
        self.assertEqual(one.say("back"), "ok")
        self.assertEqual(other.say("shortest"), "9")
        self.assertEqual(other.say("back"), "ok")
        self.assertEqual(other.say("shortest"), "2")
        self.assertEqual(outcome(one, "shortest")[0], NoRow)
        self.assertEqual(outcome(Desk(), "back")[0], NoBack)


class ByTurns(unittest.TestCase):
    def rows(self, seed):
        """Rows as they may come, right ones and wrong ones."""
        source = numbers(seed)
        for time in range(120):
            pick = next(source) % 12
            if pick == 0:
                many = 1 + next(source) % 5
                yield "table " + show_table((made, made_even)[next(source) % 2](many, 9, next(source) % 50))
            elif pick == 1:
                yield "table " + WRONG_TEXTS[next(source) % len(WRONG_TEXTS)]
            elif pick in (2, 3):
                yield f"way {next(source) % 5} {next(source) % 5} {next(source) % 12}"
            elif pick == 4:
                yield "back"
            elif pick == 5:
                yield "length " + " ".join(map(str, all_rounds(1 + next(source) % 5)[-1]))
            elif pick == 6:
                yield ("back ", "even  ", "way 0 1", "length", "", "table", "Even", "round at  once")[next(source) % 8]
            else:
                yield ASKED[next(source) % len(ASKED)]

    def test_desks_by_turns(self):
        for seed in range(12):
            desks, models = (Desk(), Desk()), (Model(), Model())
            for at, row in enumerate(self.rows(seed)):
                turn = (at * at // 3) % 2
                self.assertEqual(outcome(desks[turn], row), outcome(models[turn], row), row)


if __name__ == "__main__":
    unittest.main()
