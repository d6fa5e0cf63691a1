"""Rows of shapes, and trees of tests that lead to the first one that fits."""
