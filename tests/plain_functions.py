"""A plain reckoning with functions (a + b y) / c: triples of rows, never brought to least terms.

Orders are found in other ways than those of the document: y is lifted to powers of u where it has
two values, the rim of two places is moved to 0 by 1 / x, and elsewhere the norm tells the order.
"""

from tests import plain


def plus(p, one, other):
    (a, b, c), (d, e, f) = one, other
    first = plain.add(p, plain.times(p, a, f), plain.times(p, d, c))
    second = plain.add(p, plain.times(p, b, f), plain.times(p, e, c))
    return first, second, plain.times(p, c, f)


def times(p, f, one, other):
    (a, b, c), (d, e, g) = one, other
    first = plain.add(p, plain.times(p, a, d), plain.times(p, f, plain.times(p, b, e)))
    second = plain.add(p, plain.times(p, a, e), plain.times(p, b, d))
    return first, second, plain.times(p, c, g)


def minus(p, one):
    a, b, c = one
    return plain.scale(p, a, p - 1), plain.scale(p, b, p - 1), c


def opposite(p, one):
    a, b, c = one
    return a, plain.scale(p, b, p - 1), c


def norm(p, f, one):
    """The pair of the norm above and below."""
    a, b, c = one
    return plain.less(p, plain.times(p, a, a), plain.times(p, f, plain.times(p, b, b))), plain.times(p, c, c)


def inverse(p, f, one):
    a, b, c = one
    top, _ = norm(p, f, (a, b, (1,)))
    return plain.times(p, a, c), plain.scale(p, plain.times(p, b, c), p - 1), top


def are_equal(p, one, other):
    (a, b, c), (d, e, f) = one, other
    return plain.times(p, a, f) == plain.times(p, d, c) and plain.times(p, b, f) == plain.times(p, e, c)


def many_times(p, row, u):
    """How often u divides a polynomial other than zero."""
    many = 0
    quotient, rest = plain.split(p, row, u)
    while not rest:
        many += 1
        quotient, rest = plain.split(p, quotient, u)
    return many


def lifted(p, f, u, v, size):
    """The root of f modulo u ** size that is v modulo u, by v + (f - v * v) / (2 v)."""
    modulus = u
    for _ in range(size):
        modulus = plain.times(p, modulus, u)
        missing = plain.rest(p, plain.less(p, f, plain.times(p, v, v)), modulus)
        v = plain.rest(p, plain.add(p, v, plain.times(p, missing, inverse_modulo(p, plain.scale(p, v, 2), modulus))), modulus)
    assert not plain.rest(p, plain.less(p, f, plain.times(p, v, v)), modulus)
    return v, modulus


def inverse_modulo(p, one, modulus):
    before, after, row, other = (), (1,), modulus, plain.rest(p, one, modulus)
    while len(other) > 1:
        quotient, rest = plain.split(p, row, other)
        before, after = after, plain.less(p, before, plain.times(p, quotient, after))
        row, other = other, rest
    return plain.scale(p, after, plain.inverse(p, other[0]))


def order_split(p, f, u, v, one):
    a, b, c = one
    top, _ = norm(p, f, (a, b, (1,)))
    # No zero is of a greater order than that of the norm.
    size = many_times(p, top, u) + 2
    root, modulus = lifted(p, f, u, v, size)
    value = plain.rest(p, plain.add(p, a, plain.times(p, b, root)), modulus)
    return many_times(p, value, u) - many_times(p, c, u)


def turned(row, size):
    """x ** size times the polynomial at 1 / x."""
    return plain.strip((row + (0,) * (size + 1 - len(row)))[::-1])


def order(p, f, one, place):
    """The order at a place, other than of zero."""
    first, second = place
    top, bottom = norm(p, f, one)
    if first != "rim":
        if second is not None and second != ():
            return order_split(p, f, first, second, one)
        both = many_times(p, top, first) - many_times(p, bottom, first)
    elif second > 0:
        # w = y / x ** (g + 1) has the square of f, turned about.
        g = plain.genus(f)
        a, b, c = one
        size = max(len(a), len(b) + g + 1, len(c))
        moved = (turned(a, size), turned(b, size - g - 1), turned(c, size))
        return order_split(p, turned(f, 2 * g + 2), (0, 1), (second,), moved)
    else:
        both = len(bottom) - len(top)
    # There is one place alone over u: the norm has the order twice at a ramified place, and for u itself at an inert one.
    if first == "rim":
        return both if second == 0 else both // 2
    return both if second == () else both // 2


def value(p, f, one, x, y):
    """The value at a point, None for a pole, by the first entries of series at the point."""
    u = (-x % p, 1)
    a, b, c = one
    low = many_times(p, c, u)
    if y == 0:
        # In terms of y the function has the order of its norm.
        if a == b == ():
            return 0
        many = order(p, f, one, (u, ()))
        if many != 0:
            return None if many < 0 else 0
        for _ in range(low):
            a, b, c = [plain.split(p, row, u)[0] for row in (a, b, c)]
        return plain.value(p, a, x) * plain.inverse(p, plain.value(p, c, x)) % p
    root, modulus = lifted(p, f, u, (y,), low + 2)
    top = plain.rest(p, plain.add(p, a, plain.times(p, b, root)), modulus)
    for _ in range(low):
        quotient, rest = plain.split(p, top, u)
        if rest:
            return None
        top = quotient
    for _ in range(low):
        c = plain.split(p, c, u)[0]
    return plain.value(p, top, x) * plain.inverse(p, plain.value(p, c, x)) % p


def is_least(p, one):
    """Whether it is in its least terms."""
    a, b, c = one
    if a == b == ():
        return c == (1,)
    return c[-1] == 1 and plain.common(p, plain.common(p, a, b), c) == (1,)


def some_triples(p, f, many, seed=1):
    """Some triples, with zeros and poles at places of every kind."""
    rows = plain.some_rows(p, 8 * many, 5, seed)
    found = []
    for k in range(many):
        a, b, c, d = rows[8 * k:8 * k + 4]
        found.append((a, b, c or (1,)))
        spots = plain.places(p, f, 2 if p < 7 else 1)
        u, v = [spot for spot in spots if spot[0] != "rim"][(5 * k + seed) % sum(spot[0] != "rim" for spot in spots)]
        one = (plain.scale(p, v or (), p - 1), (1,), (1,)) if v else (u, d, (1,))
        for _ in range(k % 3 + 1):
            found.append(times(p, f, one, found[-1]))
        found.append(times(p, f, found[-1], (plain.power(p, u, k % 3), (), plain.power(p, u, (k + 1) % 3))))
    return [one for one in found if max(len(row) for row in one) < 40]
