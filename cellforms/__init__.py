"""Formulas of a sheet's cells, read, written in one form, and copied to other cells."""
