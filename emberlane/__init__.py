"""Emberlane: lamps that kindle one another as they go out."""
