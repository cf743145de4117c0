"""Two arrows, and lines through a plane."""
