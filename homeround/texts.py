"""Stage 13: tables written as texts."""

from homeround.errors import NoText
from homeround.kinds import LONGEST_WAY, MOST_PLACES, number_in
from homeround.tables import is_table

ROW_END = "/"


def show_table(table):
    """Tell the text that writes a table."""
    return " / ".join([" ".join([str(way) for way in row]) for row in table])


def read_table(text):
    """Tell the table that a text writes."""
    words = text.split(" ")
    rows = [[]]
    for at, word in enumerate(words):
        if not may_come(rows, word):
            raise NoText(at)
        if word == ROW_END:
            rows.append([])
        else:
            rows[-1].append(int(word))
    table = tuple([tuple(row) for row in rows])
    if not is_table(table):
        raise NoText(len(words))
    return table


def may_come(rows, word):
    """Tell whether some table's text has this word right behind the rows read so far."""
    # How long a row is shows when the first one ends.
    many = MOST_PLACES if len(rows) == 1 else len(rows[0])
    own = len(rows) - 1
    here = len(rows[-1])
    if word == ROW_END:
        return here == len(rows[0]) and len(rows) < here
    way = number_in(word, LONGEST_WAY)
    return way is not None and here < many and (here != own or way == 0)
