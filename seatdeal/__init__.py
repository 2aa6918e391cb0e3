"""Seats of a council dealt out by votes."""
