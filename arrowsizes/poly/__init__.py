"""Polynomials, quotients and series."""
