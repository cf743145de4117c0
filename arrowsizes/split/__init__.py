"""Fillings, split into parts."""
