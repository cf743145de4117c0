"""Plans of points and arrows."""
