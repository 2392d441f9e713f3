"""The polynomial that counts points, places and classes."""
