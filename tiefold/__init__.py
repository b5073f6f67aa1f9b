"""Tiefold: the biggest set of places all tied, and papers that none is bigger."""
