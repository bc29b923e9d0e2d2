"""Chameleons that meet on an island and change as a rule says."""
