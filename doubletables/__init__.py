"""Tables of doubles, every step told: the calls are in doubletables.tables."""
