"""Cubesums: a cube that stores sums, and what these sums determine."""
