"""Matching hides into lots."""
