"""Neveragain: words made by putting, and words without repeats."""
