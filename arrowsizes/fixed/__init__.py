"""Kinds of fillings, by fixed fillings."""
