"""Fractions in lowest terms."""

from math import gcd


def lowest_terms(numerator, denominator):
    """Returns a fraction with a positive denominator in lowest terms."""
    common = gcd(numerator, denominator)
    return numerator // common, denominator // common
