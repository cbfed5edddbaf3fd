"""Cells kept back: a table of counts with its sums, and what may be in the cells that aren't told."""
