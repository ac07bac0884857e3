"""Heightrings: lines of one height in a table of heights."""
