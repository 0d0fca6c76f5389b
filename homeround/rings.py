"""Stage 10: ring tables, by an order of their places."""

from homeround.errors import NotEven, TooMany
from homeround.tables import is_even

MOST_ORDERED = 6


def ring_or_four(table, order):
    """Tell ("ring",) where it is a ring table by the order, or ("four", places), four in order that break it."""
    refuse_uneven(table)
    four = breaking_four(table, order)
    if four is not None:
        return "four", four
    return ("ring",)


def refuse_uneven(table):
    """Refuse a table that is not even."""
    if not is_even(table):
        raise NotEven("ring tables are even")


def breaking_four(table, order):
    """Tell four places in order that break the order, or None where there are none."""
    found = [four for four in fours(order) if does_break(table, four)]
    return found[0] if found else None


def fours(order):
    """Tell all tuples of four places in order."""
    many = len(order)
    return [
        (order[first], order[second], order[third], order[fourth])
        for fourth in range(many) for third in range(fourth) for second in range(third) for first in range(second)
    ]


def does_break(table, four):
    """Tell whether two ways that do not cross are longer than the two that do."""
    i, j, k, l = four
    crossing = table[i][k] + table[j][l]
    return table[i][j] + table[k][l] > crossing or table[i][l] + table[j][k] > crossing


def ring_order(table):
    """Tell an order by which it is a ring table, or None where there is none."""
    refuse_uneven(table)
    if len(table) > MOST_ORDERED:
        raise TooMany("orders are tried of at most six places")
    # Turned on or about, an order breaks no more: so 0 may stand first. What breaks part of it breaks the whole.
    orders = [(0,)]
    for place in range(1, len(table)):
        orders = [
            wider for order in orders for wider in with_place(order, place) if breaking_four(table, wider) is None
        ]
    return orders[0] if orders else None


def with_place(order, place):
    """Tell the orders with one place more, anywhere behind the first."""
    return [order[:at] + (place,) + order[at:] for at in range(1, len(order) + 1)]
