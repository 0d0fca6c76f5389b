"""Stage 7: rounds made place by place."""


def nearest(table):
    """Tell the round that goes on to the nearest place each time."""
    gone = (0,)
    while len(gone) < len(table):
        way, place = min([(table[gone[-1]][left], left) for left in places_left(table, gone)])
        gone = gone + (place,)
    return gone


def places_left(table, gone):
    """Tell the places of the table that are not in gone, rising."""
    return [place for place in range(len(table)) if place not in gone]


def least_spot(table, gone, place):
    """Tell (more, at): by how much a place put in at its best spot makes a round longer, and behind which number."""
    followers = gone[1:] + gone[:1]
    # Of 0 alone the way between is that from 0 to itself, which is 0.
    return min([
        (table[one][place] + table[place][other] - table[one][other], at)
        for at, (one, other) in enumerate(zip(gone, followers))
    ])


def with_place(table, gone, place):
    """Tell the round with one place more, put in at its best spot."""
    at = least_spot(table, gone, place)[1]
    return gone[:at + 1] + (place,) + gone[at + 1:]


def way_to(table, gone, place):
    """Tell the least way from some place of a round to a place."""
    return min([table[one][place] for one in gone])


def cheapest(table):
    """Tell the round by putting in each time the place that makes it longer by the least."""
    gone = (0,)
    while len(gone) < len(table):
        more, place = min([(least_spot(table, gone, left)[0], left) for left in places_left(table, gone)])
        gone = with_place(table, gone, place)
    return gone


def near(table):
    """Tell the round by putting in each time the place with the least way to it."""
    gone = (0,)
    while len(gone) < len(table):
        way, place = min([(way_to(table, gone, left), left) for left in places_left(table, gone)])
        gone = with_place(table, gone, place)
    return gone


def far(table):
    """Tell the round by putting in each time the place whose least way to it is greatest."""
    gone = (0,)
    while len(gone) < len(table):
        # The greatest way turned about is the least, and of several the least number still goes first.
        turned, place = min([(-way_to(table, gone, left), left) for left in places_left(table, gone)])
        gone = with_place(table, gone, place)
    return gone


def put_in(table, order):
    """Tell the rounds by putting in places in an order, 0 first, one by one."""
    rounds = [order[:1]]
    for place in order[1:]:
        rounds.append(with_place(table, rounds[-1], place))
    return rounds
