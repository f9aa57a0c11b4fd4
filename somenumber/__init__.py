"""Somenumber: statements over whole numbers."""
