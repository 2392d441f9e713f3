"""Triples found by trying all, and their divisors as dicts."""

from tests import plain


def all_triples(p, f):
    """All (u, v, n) of a curve, ascending."""
    g, found = plain.genus(f), []
    for degree in range(g + 1):
        for u in plain.monics(p, degree):
            for v in plain.below(p, degree):
                if not plain.rest(p, plain.less(p, f, plain.times(p, v, v)), u):
                    found.extend((u, v, n) for n in range(1 if len(f) % 2 == 0 else g - degree + 1))
    return found


def table(p, f, triple):
    """The divisor of a triple, without zeros."""
    (u, v, n), g = triple, plain.genus(f)
    found = {}
    for factor in plain.factors(p, u):
        place = (factor, plain.rest(p, v, factor))
        found[place] = found.get(place, 0) + 1
    degree = len(u) - 1
    rims = [-degree] if len(f) % 2 == 0 else [n - (g + 1) // 2, g - degree - n - g // 2]
    found.update(zip(plain.rims(p, f), rims))
    return {place: many for place, many in found.items() if many}


def opposite(p, f, triple):
    """The triple of the opposite divisor where [11.4] tells it, else None."""
    (u, v, n), g = triple, plain.genus(f)
    if len(f) % 2 == 0:
        return u, plain.scale(p, v, p - 1), 0
    other = g - (len(u) - 1) - n + g % 2
    return (u, plain.scale(p, v, p - 1), other) if other <= g - (len(u) - 1) else None
