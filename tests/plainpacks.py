"""Slow, plain looks at what the document says of pieces, packs and cases, for the tests."""

import itertools
import random

LIMITS = [(ring, chain) for ring in (2, 3, 4) for chain in (1, 2, 3, 4)]


def drawn_arcs(rng, n, share, givers=0, reach=0.4):
    arcs = tuple(arc for arc in itertools.permutations(range(n), 2) if rng.random() < share)
    return (n, arcs, tuple(tuple(p for p in range(n) if rng.random() < reach) for _ in range(givers)))


def both_ways(rng, n, share, givers=0):
    """Drawn arcs of which each stands with the one back: rings of two that close odd rings."""
    pairs = [pair for pair in itertools.combinations(range(n), 2) if rng.random() < share]
    lots = tuple(tuple(p for p in range(n) if rng.random() < 0.3) for _ in range(givers))
    return (n, tuple(sorted(pairs + [(v, u) for u, v in pairs])), lots)


def whole_arcs(n, givers=0):
    return (n, tuple(itertools.permutations(range(n), 2)), (tuple(range(n)),) * givers)


def small_arcs(seed, many, most=5):
    """All arcs of up to two people, and drawn ones of up to `most`, with givers and without."""
    for n in (0, 1, 2):
        every = list(itertools.permutations(range(n), 2))
        lots = [lot for size in range(n + 1) for lot in itertools.combinations(range(n), size)]
        for size in range(len(every) + 1):
            for arcs in itertools.combinations(every, size):
                for givers in range(3):
                    for row in itertools.product(lots, repeat=givers):
                        yield (n, arcs, row)
    rng = random.Random(seed)
    for _ in range(many):
        yield drawn_arcs(rng, rng.randint(3, most), rng.choice((0.2, 0.4, 0.7, 1)), rng.choice((0, 0, 1, 2, 3)))


def plain_pieces(arcs, limits):
    """All pieces, ascending, from all rows of people."""
    n, pairs, givers = arcs
    rows = [row for size in range(1, 5) for row in itertools.permutations(range(n), size)]
    rows = [row for row in rows if all(arc in pairs for arc in zip(row, row[1:]))]
    pieces = [("ring", row) for row in rows
              if 2 <= len(row) <= limits[0] and row[0] == min(row) and (row[-1], row[0]) in pairs]
    pieces += [("chain", giver, row) for row in rows for giver, lot in enumerate(givers)
               if len(row) <= limits[1] and row[0] in lot]
    return tuple(sorted(pieces))


def users(piece):
    """The people, and the giver, of a piece."""
    return set(piece[-1]) | ({("giver", piece[1])} if piece[0] == "chain" else set())


def all_packs(pieces):
    packs = [((), set())]
    for piece in pieces:
        packs += [(pack + (piece,), taken | users(piece)) for pack, taken in packs if not taken & users(piece)]
    return [pack for pack, _ in packs]


def people_of_pack(pack):
    return {person for piece in pack for person in piece[-1]}


def weight(weights, people):
    return sum(weights[person] for person in people)


def plain_sources(arcs, person):
    n, pairs, givers = arcs
    friends = [("friend", u) for u in range(n) if (u, person) in pairs]
    return tuple(friends + [("giver", g) for g in range(len(givers)) if person in givers[g]] + [("none",)])


def plain_source(piece, person):
    if person not in piece[-1]:
        return None
    at = piece[-1].index(person)
    if at == 0:
        return ("friend", piece[-1][-1]) if piece[0] == "ring" else ("giver", piece[1])
    return ("friend", piece[-1][at - 1])


def plain_fits(case, piece):
    for person, source in case:
        inside = person in piece[-1]
        if source == ("none",):
            fits = not inside
        elif source[0] == "friend":
            fits = inside == (source[1] in piece[-1])
        else:
            fits = inside == (piece[:2] == ("chain", source[1]))
        if not fits or inside and plain_source(piece, person) != source:
            return False
    return True


def plain_keeps(pack, case):
    told = {person: plain_source(piece, person) for piece in pack for person in piece[-1]}
    return all(told.get(person, ("none",)) == source for person, source in case)


def drawn_weights(rng, n):
    top = rng.choice((0, 1, 1, 3, 1000, 10 ** 60))
    return tuple(rng.randint(0 if rng.random() < 0.5 else top, top) for _ in range(n))
