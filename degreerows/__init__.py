"""Degreerows: rows of degrees, their pieces, and rows that tell the whole web."""
