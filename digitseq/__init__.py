"""Sequences told by a machine that reads a number's digits."""
