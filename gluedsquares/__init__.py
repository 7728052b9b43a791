"""Surfaces of squares that are glued side to side."""
