"""Oneline: many talks over one line of numbers."""
