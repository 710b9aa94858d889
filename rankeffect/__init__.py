"""Rankeffect: what inserting and removing by rank does to every list."""
