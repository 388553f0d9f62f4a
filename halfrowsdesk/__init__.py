"""Rows of sixteen-bit floats, each step rounded once, what it raised told."""
