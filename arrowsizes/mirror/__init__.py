"""Mirrored fillings, and plans of the finite sort."""
