"""Clothlayers: cloths, the looms that weave them, and whether they hang together."""
