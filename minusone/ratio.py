"""Fractions that are not below 0: pairs (up, down) in least terms."""

from math import gcd


def in_least_terms(up, down):
    common = gcd(up, down)
    return (up // common, down // common)


def added(one, other):
    return in_least_terms(one[0] * other[1] + other[0] * one[1], one[1] * other[1])


def multiplied(one, other):
    return in_least_terms(one[0] * other[0], one[1] * other[1])


def is_less(one, other):
    return one[0] * other[1] < other[0] * one[1]
