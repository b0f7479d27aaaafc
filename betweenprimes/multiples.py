"""What the multiples of a number leave by a prime."""


def multiple(p, a, k):
    """What the k-th multiple of a leaves by p."""
    return k * a % p


def multiples_to(p, a, last):
    """What the multiples of a leave by p, from the first to the last that's asked for."""
    return [multiple(p, a, k) for k in range(1, last + 1)]
