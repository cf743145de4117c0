"""Fillings of plans."""
