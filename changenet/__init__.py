"""Circuits of changes."""
