"""Rests of divisions: which numbers leave a given rest."""

from math import gcd


def inverse(number, modulus):
    """Tell the number from 0 on, below the modulus, by which a number coprime to it leaves rest 1."""
    rest, other = modulus, number % modulus
    before, factor = 0, 1
    while other != 0:
        many = rest // other
        rest, other = other, rest - many * other
        before, factor = factor, before - many * factor
    return before % modulus


def meeting(one, other):
    """Tell the pair (rest, modulus) of the numbers that two such pairs have in common, or None."""
    rest, modulus = one
    wanted, by = other
    common = gcd(modulus, by)
    if (wanted - rest) % common != 0:
        return None
    by = by // common
    steps = (wanted - rest) // common * inverse(modulus // common, by) % by
    return (rest + modulus * steps, modulus * by)
