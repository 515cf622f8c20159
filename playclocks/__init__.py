"""Clocks for players."""
