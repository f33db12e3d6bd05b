"""Taflhall: positions, judged, written and read by a hall's rules."""
