"""General fillings."""
