"""Bounds of the thickness of ice on a grid, from measurements and a greatest step."""
