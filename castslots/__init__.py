"""Castslots: things with several elders, laid in slots."""
