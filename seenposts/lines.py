"""Straight lines of posts, on which the seen ones can be counted at any distance."""

from math import gcd

from seenposts.arithmetic import added, common_divisor, prime_divisors, signed_products, weights_of
from seenposts.counts import multiples
from seenposts.errors import InvalidNumber, InvalidStep
from seenposts.places import check_any_place, check_place


def number_of(start, step):
    """Return the number of the line with a start and a step."""
    return common_divisor([start[i] * step[j] - start[j] * step[i]
                           for j in range(len(start)) for i in range(j)])


class Line:
    """The posts at a start and at all multiples of a step from there; it never changes."""

    def __init__(self, start, step):
        check_any_place(start)
        check_place(step, len(start))
        if common_divisor(step) != 1:
            raise InvalidStep(step)
        self._start = start
        self._step = step
        self._number = number_of(start, step)
        # A matrix that keeps the posts leads the step to (1, 0) or (1, 0, 0). It leads the post at
        # t to a place with the first coordinate t - centre, and with the number of the line as the
        # common divisor of the others: so t - centre and the number tell whether it is seen.
        self._centre = -sum([weight * number for weight, number in zip(weights_of(step), start)])

    @property
    def start(self):
        """The place at the position 0."""
        return self._start

    @property
    def step(self):
        """What leads from each post to the next one."""
        return self._step

    @property
    def number(self):
        """The number whose primes hide the posts of the line, 0 if it goes through the eye."""
        return self._number

    def post(self, t):
        """Return the place at a position."""
        return added(self._start, tuple([t * number for number in self._step]))

    def seen_at(self, t):
        """Return True if the post at a position is seen, otherwise False."""
        return gcd(t - self._centre, self._number) == 1

    def dark(self):
        """Return the primes that hide posts, each with the remainder of the positions of these."""
        return [(prime, self._centre % prime) for prime in prime_divisors(self._number)]

    def beside_eye(self):
        """Return the positions of the two seen posts of a line through the eye, ascending."""
        return [self._centre - 1, self._centre + 1]

    def total(self, low, high):
        """Return the number of seen posts at the positions from low to high."""
        if high < low:
            return 0
        if self._number == 0:
            return len([t for t in self.beside_eye() if low <= t <= high])
        first, last = (low - self._centre,), (high - self._centre,)
        products = signed_products(prime_divisors(self._number))
        return sum([sign * multiples(first, last, divisor) for divisor, sign in products])

    def at(self, k):
        """Return the position of the seen post with the number k among those from 0 on."""
        if self._number == 0:
            seen = [t for t in self.beside_eye() if t >= 0]
            if not 0 <= k < len(seen):
                raise InvalidNumber(k)
            return seen[k]
        if k < 0:
            raise InvalidNumber(k)
        many = self.total(0, self._number - 1)
        low, high = 0, self._number - 1
        while low < high:
            middle = (low + high) // 2
            if self.total(0, middle) > k % many:
                high = middle
            else:
                low = middle + 1
        return k // many * self._number + low

    def share(self):
        """Return the part of all positions that have a seen post, as a fraction."""
        if self._number == 0:
            return (0, 1)
        many = self.total(0, self._number - 1)
        divisor = gcd(many, self._number)
        return many // divisor, self._number // divisor

    def longest(self):
        """Return how long the longest dark stretch is and where the first such one begins."""
        if self._number == 0:
            return None
        # Each stretch that begins at one of the positions from 0 to the number less 1 ends, at the
        # latest, one number further on; all others are as long as one of these.
        seen = [t for t in range(-1, 2 * self._number) if self.seen_at(t)]
        stretches = [(after - before - 1, before + 1) for before, after in zip(seen, seen[1:])]
        many = max([length for length, _ in stretches])
        if many == 0:
            return (0, None)
        return many, min([t for length, t in stretches if length == many])

    def __eq__(self, other):
        if not isinstance(other, Line):
            return False
        return self._start == other._start and self._step == other._step
