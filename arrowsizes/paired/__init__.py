"""Pairs of fillings."""
