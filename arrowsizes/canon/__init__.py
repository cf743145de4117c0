"""Canonical parts of sizes."""
