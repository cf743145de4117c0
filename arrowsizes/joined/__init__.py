"""Joins of fillings."""
