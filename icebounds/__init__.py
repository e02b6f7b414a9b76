"""Bounds of the thickness of ice on a grid, and safe routes, from measurements and a greatest step."""
