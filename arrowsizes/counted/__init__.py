"""Kinds of fillings, by partitions."""
