"""Rows of points, and bars."""
