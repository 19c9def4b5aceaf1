"""Squaremark: two-dimensional labels with error correction."""
