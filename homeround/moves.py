"""Stage 8: moves of a round, and betterings by them."""

from homeround.tables import length

LONGEST_MOVED = 3


def is_move(one, other):
    """Tell whether one move leads from a round to another one."""
    return other in moves_of(one)


def moves_of(round_):
    """Tell all rounds to which one move leads, each perhaps several times."""
    found = []
    for stop in range(2, len(round_) + 1):
        for start in range(1, stop):
            found.extend(moves_of_stretch(round_, start, stop))
    return [other for other in found if other != round_]


def moves_of_stretch(round_, start, stop):
    """Tell the rounds in which the stretch from start to stop is turned where it stands, or stands elsewhere."""
    stretch = round_[start:stop]
    found = [round_[:start] + stretch[::-1] + round_[stop:]]
    if len(stretch) <= LONGEST_MOVED:
        rest = round_[:start] + round_[stop:]
        for at in range(1, len(rest) + 1):
            found.append(rest[:at] + stretch + rest[at:])
            found.append(rest[:at] + stretch[::-1] + rest[at:])
    return found


def shorter_moves(table, round_):
    """Tell the rounds to which one move leads and which are shorter."""
    own = length(table, round_)
    return [other for other in moves_of(round_) if length(table, other) < own]


def is_settled(table, round_):
    """Tell whether no move of a round is shorter."""
    return shorter_moves(table, round_) == []


def bettered(table, round_):
    """Tell the rounds by shorter and shorter moves from a round to a settled one."""
    found = [round_]
    shorter = shorter_moves(table, round_)
    while shorter:
        found.append(min(shorter, key=lambda other: length(table, other)))
        shorter = shorter_moves(table, found[-1])
    return found


def are_bettered(table, some):
    """Tell of any list of rounds whether it goes by shorter and shorter moves to a settled one."""
    if some == []:
        return False
    steps = [is_shorter_move(table, one, other) for one, other in zip(some, some[1:])]
    return all(steps) and is_settled(table, some[-1])


def is_shorter_move(table, one, other):
    """Tell whether one move leads from a round to another one that is shorter."""
    return length(table, other) < length(table, one) and is_move(one, other)
