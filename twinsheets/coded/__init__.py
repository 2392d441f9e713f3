"""Codes of functions at places."""
