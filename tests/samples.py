"""Tables for the tests, and slow answers to check the program's by."""

from fractions import Fraction
from functools import cache
from itertools import combinations, permutations


def numbers(seed):
    """Yield the same whole numbers each time for a seed."""
    state = seed * 7919 + 104729
    while True:
        state = (state * 6364136223846793005 + 1442695040888963407) % 2 ** 64
        yield state >> 33


def made(many, top, seed):
    """A table with lengths from 0 to top, as a rule not even."""
    source = numbers(seed)
    return tuple(
        tuple(0 if i == j else next(source) % (top + 1) for j in range(many))
        for i in range(many)
    )


def made_even(many, top, seed):
    table = made(many, top, seed)
    return tuple(tuple(table[min(i, j)][max(i, j)] for j in range(many)) for i in range(many))


def same_ways(many, way):
    """A table with one length everywhere: all rounds are as short."""
    return tuple(tuple(0 if i == j else way for j in range(many)) for i in range(many))


def on_a_line(many, step=5):
    """An even and straight table in which each detour is as long as the way itself."""
    return tuple(tuple(abs(i - j) * step for j in range(many)) for i in range(many))


def one_ring(many):
    """A table with one shortest round alone, 0, 1, 2 ..: its ways have length 1, all others 3."""
    return tuple(
        tuple(0 if i == j else 1 if j == (i + 1) % many else 3 for j in range(many))
        for i in range(many)
    )


def with_way(table, i, j, way):
    rows = [list(row) for row in table]
    rows[i][j] = way
    return tuple(tuple(row) for row in rows)


def sample_tables(most=8):
    """Tables of one place to most places: even or not, with few or many rounds as short."""
    found = []
    for many in range(1, most + 1):
        found += [same_ways(many, 0), same_ways(many, 4), same_ways(many, 10 ** 6), on_a_line(many), one_ring(many)]
        for top in (1, 3, 20, 10 ** 6):
            found += [made(many, top, many + top), made_even(many, top, many + top + 1)]
    return found


def is_table_even(table):
    return table == tuple(zip(*table))


def even_tables(least=1, most=8):
    """Even tables of least to most places: lengths small, alike, great, 0 among them."""
    found = [table for table in sample_tables(most) if len(table) >= least and is_table_even(table)]
    for many in range(least, most + 1):
        for seed, top in enumerate((2, 2, 9, 9, 10 ** 6)):
            found.append(made_even(many, top, 50 + seed))
    return found


def straightened(table):
    """The table with the least lengths of walks."""
    rows = [list(row) for row in table]
    places = range(len(table))
    for j in places:
        for i in places:
            for k in places:
                rows[i][k] = min(rows[i][k], rows[i][j] + rows[j][k])
    return tuple(tuple(row) for row in rows)


def prism(within, across, far, order=(0, 1, 2, 3, 4, 5)):
    """An even table of six places: two threes with ways within, a way across from each place, all others far.

    Where across is shorter than within, and far long enough, the shares are halves within and wholes across, and no
    round is of their worth.
    """
    rows = [[0] * 6 for place in order]
    for i in range(6):
        for j in range(6):
            if i != j:
                way = within if i // 3 == j // 3 else across if i % 3 == j % 3 else far
                rows[order[i]][order[j]] = way
    return tuple(tuple(row) for row in rows)


def straight_tables(least=1, most=8):
    """Even and straight tables of least to most places."""
    found = [straightened(table) for table in even_tables(least, most)]
    if least <= 6 <= most:
        found += [prism(2, 1, 3), prism(5, 3, 8, (0, 2, 4, 1, 3, 5)), prism(3, 5, 8, (5, 2, 4, 1, 3, 0))]
    for many in range(least, most + 1):
        # On a ring a round is twice as long as a chain, and more than a tree by just one way.
        found.append(tuple(
            tuple(min((i - j) % many, (j - i) % many) * 3 for j in range(many)) for i in range(many)
        ))
    return found


def uneven_tables(most=8):
    """Tables of two places or more in which one way back alone is of another length, by one."""
    found = []
    for many in range(2, most + 1):
        for table in (same_ways(many, 4), made_even(many, 9, many), on_a_line(many)):
            for i, j in ((0, 1), (1, 0), (many - 1, 0), (many - 2, many - 1)):
                found.append(with_way(table, i, j, table[i][j] + 1))
    return found


@cache
def all_nexts(many):
    return [some for some in permutations(range(many)) if all(at != place for at, place in enumerate(some))]


def all_ties(many):
    return list(combinations(range(many), 2))


def do_tie_together(places, ties):
    """Whether each two of places hang together by ties."""
    parts = {place: place for place in places}
    for i, j in ties:
        old, new = parts[i], parts[j]
        parts = {place: new if part == old else part for place, part in parts.items()}
    return len(set(parts.values())) <= 1


@cache
def all_trees(places):
    """All trees of a tuple of places, as sorted lists of ties."""
    ties = list(combinations(places, 2))
    return [list(some) for some in combinations(ties, len(places) - 1) if do_tie_together(places, some)]


def all_pairings(places):
    """All pairings of a rising tuple of places, as sorted lists."""
    if not places:
        return [[]]
    return [
        [(places[0], other)] + rest
        for other in places[1:]
        for rest in all_pairings(tuple(place for place in places[1:] if place != other))
    ]


def shortest_length(table):
    return min(round_length(table, round_) for round_ in all_rounds(len(table)))


@cache
def all_rounds(many):
    return tuple((0,) + rest for rest in permutations(range(1, many)))


def round_length(table, round_):
    total = 0
    for at in range(len(round_)):
        total += table[round_[at]][round_[(at + 1) % len(round_)]]
    return total


def walk_length(table, places):
    return sum(table[places[at]][places[at + 1]] for at in range(len(places) - 1))


def least_walk(table, one, other):
    """The least length of all walks from one to other that come to no place twice."""
    between = [place for place in range(len(table)) if place not in (one, other)]
    return min(
        walk_length(table, (one,) + middle + (other,))
        for size in range(len(between) + 1)
        for middle in permutations(between, size)
    )


def really_show(table, floors, number):
    """Whether floors (all of them of the right form) show a number, word by word as the document says it."""
    if not any(some == (0,) and last == 0 and m >= number for some, last, m in floors):
        return False
    for some, last, m in floors:
        if m <= 0:
            continue
        outside = [k for k in range(len(table)) if k not in some]
        if not outside and m > table[last][0]:
            return False
        for k in outside:
            wider = tuple(sorted(some + (k,)))
            carried = any(f[0] == wider and f[1] == k and f[2] >= m - table[last][k] for f in floors)
            if m > table[last][k] and not carried:
                return False
    return True


def all_moves(round_):
    """All rounds to which one move leads."""
    found = set()
    many = len(round_)
    for start, stop in combinations(range(1, many + 1), 2):
        places = list(round_)
        places[start:stop] = places[start:stop][::-1]
        found.add(tuple(places))
    for size in (1, 2, 3):
        for start in range(1, many - size + 1):
            stretch = list(round_[start:start + size])
            rest = [place for place in round_ if place not in stretch]
            for at in range(len(rest)):
                found.add(tuple(rest[:at + 1] + stretch + rest[at + 1:]))
                found.add(tuple(rest[:at + 1] + stretch[::-1] + rest[at + 1:]))
    return found - {round_}


def both_ways(table, i, j, way):
    return with_way(with_way(table, i, j, way), j, i, way)


def with_one_otherwise(table, seed):
    """Even tables in which one way is longer, and one shorter, by one, both ways."""
    source = numbers(seed)
    i, j = next(source) % len(table), next(source) % len(table)
    if i == j:
        return []
    return [both_ways(table, i, j, way) for way in (table[i][j] + 1, table[i][j] - 1) if 0 <= way <= 10 ** 6]


def split_table(many, weighed):
    """The even table in which i and j are as far apart as all weights of those sets that have just one of both."""
    return tuple(
        tuple(sum(weight for some, weight in weighed if (i in some) != (j in some)) for j in range(many))
        for i in range(many)
    )


def way_along(ties, one, other, before=None):
    """The length of the way along ties (i, j, (top, bottom)) of a tree, or None where there is none."""
    if one == other:
        return Fraction(0)
    for i, j, way in ties:
        if one in (i, j) and i + j - one != before:
            rest = way_along(ties, i + j - one, other, one)
            if rest is not None:
                return rest + Fraction(*way)
    return None


def grown_tree(many, inner, top, seed):
    """A drawn tree of many places and as many inner ones, lengths in halves, all ways between the places whole."""
    source = numbers(seed)
    depth = {0: 0}
    ties = []
    order = list(range(many, many + inner)) + list(range(1, many))
    for place in order:
        over = sorted(depth)[next(source) % len(depth)]
        way = next(source) % (top + 1)
        if place < many and (depth[over] + way) % 2:
            way += 1
        depth[place] = depth[over] + way
        half = Fraction(way, 2)
        ties.append((min(over, place), max(over, place), (half.numerator, half.denominator)))
    return tuple(sorted(ties))


def tree_tables(least=1, most=8):
    """Tables of grown trees, lengths 0 among them, with (many, drawn, table) each."""
    found = []
    for many in range(least, most + 1):
        for seed in range(8):
            inner = seed % (15 - many) if seed % 2 else 0
            drawn = grown_tree(many, inner, (1, 5, 40, 90000)[seed % 4], 10 * many + seed)
            table = tuple(tuple(int(way_along(drawn, i, j)) for j in range(many)) for i in range(many))
            found.append((many, drawn, table))
    return found


def ring_tables(least=1, most=8):
    """Pairs (table, order): tables that are ring tables by the order."""
    found = []
    for many in range(least, most + 1):
        for seed in range(6):
            source = numbers(100 * many + seed)
            order = tuple(sorted(range(many), key=lambda place: next(source))) if seed else tuple(range(many))
            arcs = [order[start:stop] for start in range(many) for stop in range(start + 1, many + 1)]
            top = (2, 2, 9, 9, 1000, 25000)[seed]
            found.append((split_table(many, [(arc, max(0, next(source) % (2 * top) - top)) for arc in arcs]), order))
    return found


def falling_table(many, top, seed, even=False):
    """A falling table: weights from 0 on are summed up, and rows and columns shifted so that own ways are 0."""
    source = numbers(seed)
    weights = [[max(0, next(source) % (2 * top + 1) - top) for q in range(many)] for p in range(many)]
    if even:
        weights = [[2 * weights[min(p, q)][max(p, q)] for q in range(many)] for p in range(many)]
    sums = [
        [sum(weights[p][q] for p in range(i + 1) for q in range(j + 1)) for j in range(many)] for i in range(many)
    ]
    shifts = [0]
    for q in range(1, many):
        own = weights[q][q]
        share = own // 2 if even else next(source) % (own + 1)
        shifts.append(shifts[-1] + sum(weights[p][q] for p in range(q)) + share)
    return tuple(
        tuple(sums[i][i] - sums[i][j] + shifts[j] - shifts[i] for j in range(many)) for i in range(many)
    )


def falling_tables(least=1, most=8):
    """Falling tables of least to most places, even or not."""
    found = []
    for many in range(least, most + 1):
        found += [on_a_line(many), same_ways(many, 0)]
        for seed, top in enumerate((1, 2, 9, 300, 9000)):
            found += [falling_table(many, top, 10 * many + seed, even) for even in (False, True)]
    return found


def tied_table(many, ties):
    """The table of a web, 0 along its ties and 1 elsewhere."""
    return tuple(
        tuple(0 if i == j or (min(i, j), max(i, j)) in ties else 1 for j in range(many)) for i in range(many)
    )


def all_webs(many):
    ties = all_ties(many)
    return [(many, some) for size in range(len(ties) + 1) for some in combinations(ties, size)]


def some_webs(many, how_many):
    """Webs with few, half and many ties; a ring, a star, all ties, none."""
    source = numbers(many + 31)
    ties = all_ties(many)
    found = [(many, ()), (many, tuple(ties)), (many, tuple((0, place) for place in range(1, many)))]
    found.append((many, tuple((place, many - 1) for place in range(many - 1))))
    found.append((many, tuple(tie for tie in ties if tie[1] - tie[0] in (1, many - 1))))
    for time in range(how_many):
        often = 2 + time % 7
        found.append((many, tuple(tie for tie in ties if next(source) % 10 < often)))
    return found


def sample_webs():
    """Webs of one place to eight: all of few places, some of more."""
    found = [web for many in range(1, 5) for web in all_webs(many)]
    return found + [web for many in range(5, 9) for web in some_webs(many, 40)]


def web_rounds(web):
    """All rounds of a web."""
    many, ties = web
    table = tied_table(many, ties)
    return [round_ for round_ in all_rounds(many) if round_length(table, round_) == 0]


def drawn_orders(many, how_many):
    """Some orders of all places."""
    source = numbers(many + 77)
    return [tuple(sorted(range(many), key=lambda place: next(source))) for time in range(how_many)]


HUGE = 10 ** 39

# Things that are neither a table, nor a round, nor a floor of any table.
STRANGE = (
    None, True, False, -1, 1, HUGE, -HUGE, "", "0", "((0,),)", (), [], [[0]], ((),), [()], ([0],), [(0,)],
    (None,), (True,), (False,), ("",), ("0",), ((None,),), ((True,),), ((False,),), (("",),), (("0",),), (((0,),),),
    ((((((((((0,),),),),),),),),),), [[[[[[[[[[0]]]]]]]]]], (0, None), (0, "1"), (0, [1]), (0, (1,)), (0, HUGE),
    ((0, 1), None), (None, (1, 0)), ((0, 1), 5), ((0, 1), "10"), ((0, 1), [1, 0]), ["table"],
)
