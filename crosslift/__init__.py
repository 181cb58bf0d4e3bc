"""Crosslift: shifting the rows and columns of a table."""
