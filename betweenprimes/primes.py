"""The odd primes below 200."""

PRIMES_END = 200


def is_odd_prime(n):
    """Whether n is an odd prime below 200."""
    # The end is asked first: a great n is not to be tried by its divisors.
    if n < 3 or n >= PRIMES_END or n % 2 == 0:
        return False
    divisor = 3
    while divisor * divisor <= n:
        if n % divisor == 0:
            return False
        divisor += 2
    return True


def prime_above(n, barred):
    """The least odd prime above n, below 200, that isn't barred; 0 if there's none."""
    for candidate in range(n + 1, PRIMES_END):
        if candidate != barred and is_odd_prime(candidate):
            return candidate
    return 0


def half(prime):
    """Half of a prime, rounded down."""
    return prime // 2
