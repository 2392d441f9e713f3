"""Twinsheets: curves y * y = f(x) over the residues modulo a prime."""
