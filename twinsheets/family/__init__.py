"""All curves of a genus, and the families that changes make of them."""
