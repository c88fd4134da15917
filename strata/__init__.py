"""Strata: texts in folders, kept in all their versions."""
