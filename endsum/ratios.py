"""Fractions, told as tuples (top, bottom) of whole numbers."""

from math import gcd


def in_lowest_terms(top, bottom):
    """The fraction of two whole numbers, bottom from 1 on; 0 is (0, 1)."""
    shared = gcd(top, bottom)
    return (top // shared, bottom // shared)
