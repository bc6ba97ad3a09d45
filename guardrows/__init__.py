"""Guardrows: two rows of steps that share boxes and one guard."""
