"""Sureplans: plans made without seeing."""
