"""The object that calls are made on: two primes."""

from betweenprimes.calls import NO_NEXT, REFUSED
from betweenprimes.primes import is_odd_prime, prime_above


class Session:
    """Two primes, p and q; both are 0 till a begin is answered 0."""

    def __init__(self):
        self.p = 0
        self.q = 0

    def begun(self):
        """Whether there are two primes already."""
        return self.p != 0

    def begin(self, p, q):
        """Take p and q, or refuse them and keep what there was."""
        if p == q or not is_odd_prime(p) or not is_odd_prime(q):
            return [REFUSED]
        self.p = p
        self.q = q
        return [0]

    def told(self):
        """The two primes, p first."""
        return [self.p, self.q]

    def exchange(self):
        """Let each prime be what the other one was."""
        former = self.p
        self.p = self.q
        self.q = former
        return self.told()

    def move_on(self):
        """Let q be the next prime above it that isn't p, if there is one."""
        prime = prime_above(self.q, self.p)
        if prime == 0:
            return [NO_NEXT]
        self.q = prime
        return [prime]
