"""Stage 13: a desk, which is told rows and answers each with a text."""

from homeround.drawn import tree_or_four, tree_round
from homeround.errors import NoBack, NoRow, NoText
from homeround.falling import falling_or_four, pyramid
from homeround.kinds import LONGEST_WAY, number_in
from homeround.nexts import nexts
from homeround.puttings import cheapest, far, near, nearest
from homeround.rings import ring_or_four
from homeround.shares import shares
from homeround.shortest import shortest
from homeround.tables import is_even, is_round, is_straight, length
from homeround.texts import read_table
from homeround.trees import least_tree


def yes_or_no(truth):
    """Tell a truth as a word."""
    return "yes" if truth else "no"


def places_text(round_):
    """Tell the places of a round as a text."""
    return " ".join([str(place) for place in round_])


def say_even(table):
    """Answer whether the table is even."""
    return yes_or_no(is_even(table))


def say_straight(table):
    """Answer whether the table is straight."""
    return yes_or_no(is_straight(table))


def say_shortest(table):
    """Answer with the length of the shortest round."""
    return str(shortest(table)[0])


def say_nexts(table):
    """Answer with the least sum of nexts."""
    return str(nexts(table)[0])


def say_tree(table):
    """Answer with the sum of the least tree."""
    return str(least_tree(table)[0])


def say_shares(table):
    """Answer with the worth of the shares."""
    top, bottom = shares(table)[0]
    return f"{top}/{bottom}"


def say_nearest(table):
    """Answer with the round that goes on to the nearest place."""
    return places_text(nearest(table))


def say_cheapest(table):
    """Answer with the round by putting in the cheapest place."""
    return places_text(cheapest(table))


def say_near(table):
    """Answer with the round by putting in the nearest place."""
    return places_text(near(table))


def say_far(table):
    """Answer with the round by putting in the farthest place."""
    return places_text(far(table))


def say_pyramid(table):
    """Answer with the length of the shortest pyramid."""
    return str(pyramid(table)[0])


def say_round_at_once(table):
    """Answer with the first shape that the table is of, and the length of its shortest round by it."""
    order = tuple(range(len(table)))
    # Trees and rings refuse tables that are not even.
    if is_even(table) and tree_or_four(table)[0] == "tree":
        return f"tree {tree_round(table)[0]}"
    if is_even(table) and ring_or_four(table, order)[0] == "ring":
        return f"ring {length(table, order)}"
    if falling_or_four(table)[0] == "falling":
        return f"falling {pyramid(table)[0]}"
    return "no"


ANSWERS = {
    "even": say_even,
    "straight": say_straight,
    "shortest": say_shortest,
    "nexts": say_nexts,
    "tree": say_tree,
    "shares": say_shares,
    "nearest": say_nearest,
    "cheapest": say_cheapest,
    "near": say_near,
    "far": say_far,
    "pyramid": say_pyramid,
    "round at once": say_round_at_once,
}


def say_length(table, words):
    """Answer with the length of the round that the words write."""
    places = tuple([number_in(word, len(table) - 1) for word in words])
    if not is_round(table, places):
        raise NoRow("behind length a round is told")
    return str(length(table, places))


def with_way(table, words):
    """Tell the table with the one way otherwise that the words write."""
    if len(words) != 3:
        raise NoRow("a way has two places and a length")
    one = number_in(words[0], len(table) - 1)
    other = number_in(words[1], len(table) - 1)
    way = number_in(words[2], LONGEST_WAY)
    if one is None or other is None or one == other or way is None:
        raise NoRow("a way has two unlike places and a length")
    rows = [list(row) for row in table]
    rows[one][other] = way
    return tuple([tuple(row) for row in rows])


def table_in_row(text):
    """Tell the table that the text behind the first word of a row writes."""
    try:
        return read_table(text)
    except NoText as e:
        raise NoText(e.at + 1) from None


class Desk:
    """A desk with the tables that stood there, one behind the other; the last one stands."""

    def __init__(self):
        self.tables = []

    def say(self, row):
        """Answer a row with a text."""
        word, blank, rest = row.partition(" ")
        if word == "table" and blank == " ":
            return self.stand(table_in_row(rest))
        if row == "back":
            return self.go_back()
        if self.tables == []:
            raise NoRow("no table stands")
        table = self.tables[-1]
        if row in ANSWERS:
            deed = ANSWERS[row]
            return deed(table)
        if word == "way":
            return self.stand(with_way(table, rest.split(" ")))
        if word == "length":
            return say_length(table, rest.split(" "))
        raise NoRow("no such row")

    def stand(self, table):
        """From now on this table stands."""
        self.tables.append(table)
        return "ok"

    def go_back(self):
        """The table ahead of the last one stands again, or none."""
        if self.tables == []:
            raise NoBack("nothing is left to go back behind")
        self.tables.pop()
        return "ok"
