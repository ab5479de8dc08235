"""Formulas of a sheet's cells: read, written in one form, copied, shifted, and asked where they point."""
