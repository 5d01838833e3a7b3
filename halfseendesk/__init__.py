"""Plates of what was half seen."""
