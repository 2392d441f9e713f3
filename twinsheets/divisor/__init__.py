"""Functions on a curve, and divisors."""
