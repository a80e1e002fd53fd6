"""Everywish: lamps set by a friend and a foe."""
