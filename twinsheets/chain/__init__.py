"""The chain of a curve with two places at its rim, and its units."""
