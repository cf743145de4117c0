"""Spaces at points, tables along arrows, and one polynomial for each row of sizes."""
