"""The share of a part if at each block the rests of the runs were drawn at random."""

from math import gcd

from runledger.errors import OtherRoutine


def added(one, other):
    """Return the sum of two fractions (p, q), without common divisors."""
    p = one[0] * other[1] + other[0] * one[1]
    q = one[1] * other[1]
    divisor = gcd(p, q)
    return (p // divisor, q // divisor)


def share(counts, part):
    """Return the even share of the part as a fraction (p, q)."""
    if counts.routine != part.routine:
        raise OtherRoutine()
    # How many runs come to each block by jumps of the part. The jumps are ascending: those to a block
    # stand before those from it.
    shares = [(0, 1) for block in range(counts.routine.blocks)]
    shares[0] = (counts.total, 1)
    for u, v in part.jumps:
        if counts[(u, v)] > 0:
            p, q = shares[u]
            shares[v] = added(shares[v], (p * counts[(u, v)], q * counts.load(u)))
    return shares[-1]
