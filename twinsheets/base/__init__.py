"""Numbers: residues, prime numbers and names."""
