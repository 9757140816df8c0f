"""Pushshelf: blocks on a shelf, and a hand in its gaps."""
