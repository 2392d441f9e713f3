"""Classes of divisors of degree 0, and the group that they are."""
