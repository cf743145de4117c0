"""Roots of plans and their multiplicities."""
