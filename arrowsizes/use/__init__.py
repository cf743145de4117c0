"""A desk for fillings."""
