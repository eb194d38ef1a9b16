"""Mastcalls: calls that move from mast to mast, and are never dropped."""
