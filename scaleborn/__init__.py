"""Scaleborn: what can be said without numbers."""
