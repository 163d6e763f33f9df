"""Chancehall: halls of doors and exact chances."""
