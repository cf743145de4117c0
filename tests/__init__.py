"""The tests of arrowsizes."""
