"""Printwell: texts laid out at their best, and read back the same."""
