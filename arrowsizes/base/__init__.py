"""Integers, names, fractions and rows of sizes."""
