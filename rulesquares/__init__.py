"""Squares filled by a rule, for all sizes at once."""
