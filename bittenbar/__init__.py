"""Squares bitten off a bar, the one at the corner bitter."""
