"""Weights and steady fillings."""
