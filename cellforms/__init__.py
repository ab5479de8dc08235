"""Formulas of a sheet's cells, read and written in one form."""
