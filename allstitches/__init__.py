"""Knitting instructions, read for all sizes at once."""
