"""Ridebook: rides, changes, and the earliest coming."""
