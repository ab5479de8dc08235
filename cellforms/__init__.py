"""Formulas of a sheet's cells, read, written in one form, copied to other cells, and kept when these are shifted."""
