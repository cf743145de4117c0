"""Partitions."""
