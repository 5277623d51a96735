"""Whole-number forms in up to eight unknowns."""
