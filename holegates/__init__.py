"""Nets with missing gates: which gates can stand in the holes, and what shows it."""
