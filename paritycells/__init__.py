"""Paritycells: cells toggled by parity."""
