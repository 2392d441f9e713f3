"""Functions with bounded poles, found by going through all whose denominator is bounded.

A function is a triple of rows here, as in plain_functions.
"""

from itertools import product

from tests import plain
from tests import plain_functions as own


def limits(p, f, table):
    """The denominator, and how many entries a and b may have above it."""
    below = (1,)
    for u in {place[0] for place in table if place[0] != "rim"}:
        many = max(table.get(place, 0) for place in plain.places_over(p, f, u))
        if plain.places_over(p, f, u)[0][1] == ():
            many = (many + 1) // 2
        below = plain.times(p, below, plain.power(p, u, max(many, 0)))
    top = max(table.get(rim, 0) for rim in plain.rims(p, f))
    if len(f) % 2 == 0:
        top += 2 * (len(below) - 1)
        first, second = top // 2 + 1, (top - len(f) + 1) // 2 + 1
    else:
        top += len(below) - 1
        first, second = top + 1, top - plain.genus(f)
    return below, max(first, 0), max(second, 0)


def candidates(p, f, table):
    """One of all p - 1 functions that are residues times one another, for all with bounded entries, but zero."""
    below, first, second = limits(p, f, table)
    for entries in product(range(p), repeat=first + second):
        if next((entry for entry in entries if entry), 0) == 1:
            yield plain.strip(entries[:first]), plain.strip(entries[first:]), below


def watched(p, f, table):
    """The places at which a function with such a denominator can have a pole, or must have a zero."""
    found = plain.rims(p, f)
    for u in {place[0] for place in table if place[0] != "rim"}:
        found.extend(plain.places_over(p, f, u))
    return found


def is_member(p, f, table, one):
    return all(own.order(p, f, one, place) >= -table.get(place, 0) for place in watched(p, f, table))


def size(p, f, table):
    """The size of the space, by the number of its functions."""
    many = 1 + (p - 1) * sum(is_member(p, f, table, one) for one in candidates(p, f, table))
    found = 0
    while many > 1:
        assert many % p == 0
        many //= p
        found += 1
    return found


def some_tables(p, f, many, top, seed=1):
    """Some tables whose functions with bounded entries are not too many, with places of every kind."""
    spots = plain.places(p, f, 2 if p == 3 else 1)
    near, far = [spot for spot in spots if spot[0] == "rim"], [spot for spot in spots if spot[0] != "rim"]
    state, found = seed, [{}]
    tries = 0
    while len(found) < many and tries < 400:
        tries += 1
        table = {}
        state = (state * 1103515245 + 12345) % 2 ** 31
        for k in range(state // 65536 % 3 + 1):
            state = (state * 1103515245 + 12345) % 2 ** 31
            table[far[state // 65536 % len(far)]] = state // 7 % 6 - 2
        for spot in near:
            state = (state * 1103515245 + 12345) % 2 ** 31
            table[spot] = state // 65536 % 9 - 4
        _, first, second = limits(p, f, table)
        if first + second <= top and table not in found:
            found.append(table)
    return found


def alike_pairs(curve_class, function_class, p, f, seed=1):
    """Some functions of a curve, as objects, other than zero."""
    curve = curve_class(plain.Poly(p, f))
    for triple in own.some_triples(p, f, 3, seed):
        function = function_class(curve, *plain.polys(p, triple))
        if not function.is_zero:
            yield function
