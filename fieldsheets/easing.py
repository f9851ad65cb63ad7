"""How a dial goes from one value to another."""

EVEN = 0
IN = 1
OUT = 2


def share(ease, n, i):
    """How much of the way is gone at step i of n: p and q of p / q."""
    if ease == EVEN:
        return (i, n)
    if ease == IN:
        return (i * i, n * n)
    if ease == OUT:
        return (2 * n * i - i * i, n * n)
    return (3 * n * i * i - 2 * i * i * i, n * n * n)


def nearest(a, q):
    """The whole number nearest to a / q, the greater one of two that are as near."""
    # Rounding down a / q + 1 / 2 does both, below 0 too.
    return (2 * a + q) // (2 * q)


def eased(ease, n, i, a, b):
    """The value at step i of n on the way from a to b."""
    part = share(ease, n, i)
    return a + nearest(part[0] * (b - a), part[1])
