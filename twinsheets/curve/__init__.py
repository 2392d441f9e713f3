"""Curves, their places, and changes of x and y."""
