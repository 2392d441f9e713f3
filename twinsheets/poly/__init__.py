"""Polynomials over the residues modulo a prime."""
