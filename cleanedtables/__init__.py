"""Cleanedtables: sources cleaned into tables, each row led back."""
