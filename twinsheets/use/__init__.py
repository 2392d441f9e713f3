"""A bench on which curves and divisors lie."""
