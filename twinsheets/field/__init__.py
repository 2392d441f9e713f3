"""Fields with finitely many members."""
