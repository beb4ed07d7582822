"""The order of quaternions that belongs to a prime, and what its elements are multiplied and measured by."""

from levelroads.base.numbers import check_bounded, is_integer, is_prime
from levelroads.base.ratios import Ratio
from levelroads.base.tables import divided_row, mixed_row, whole_row
from levelroads.errors import InvalidElement, InvalidOperation, InvalidPrime
from levelroads.quat.bases import modulus_of, order_facts, root_of, told_basis
from levelroads.quat.lattices import all_of_norm

MAX_PRIME = 97
MAX_NORM = 400
MAX_POWER = 60


def check_prime(prime):
    """Refuse what is no prime from 2 to 97."""
    if not is_prime(prime) or prime > MAX_PRIME:
        raise InvalidPrime("a prime is a prime number from 2 to 97")


def is_element(value):
    """Whether a value is a tuple of four integers."""
    return isinstance(value, tuple) and len(value) == 4 and all([is_integer(entry) for entry in value])


def check_element(value):
    """Refuse what is no tuple of four integers."""
    if not is_element(value):
        raise InvalidElement("an element is a tuple of four integers")


def least_modulus(prime):
    """The least prime that leaves 3 modulo 4 and modulo which a prime that leaves 1 modulo 8 is no square."""
    _check_one_modulo_eight(prime)
    return modulus_of(prime)


def root_modulus(prime):
    """The least c of at least 0 for which the least modulus q divides c * c * p + 1, p being the prime."""
    _check_one_modulo_eight(prime)
    return root_of(prime, modulus_of(prime))


def _check_one_modulo_eight(prime):
    check_prime(prime)
    if prime % 8 != 1:
        raise InvalidOperation("the prime leaves 1 modulo 8")


def _element_of(tops, bottom, units):
    """The element that stands for a quaternion, of integers over another one, or None."""
    row = mixed_row(tops, units, 4)
    if any([entry % bottom for entry in row]):
        return None
    return tuple([entry // bottom for entry in row])


class Order:
    """The order of a prime. It never changes."""

    def __init__(self, prime):
        check_prime(prime)
        self._prime = prime
        self._squares, self._tops, self._bottom, self._units = told_basis(prime)
        self._basis = tuple([divided_row(row, self._bottom) for row in self._tops])
        _, self._products, self._pairings = order_facts(prime)

    @property
    def prime(self):
        """The prime."""
        return self._prime

    @property
    def squares(self):
        """The squares of i and of j."""
        return self._squares

    @property
    def basis(self):
        """The four quaternions of the basis, each one a tuple of four ratios."""
        return self._basis

    @property
    def one(self):
        """The element that stands for 1."""
        return self._units[0]

    @property
    def products(self):
        """At r and s the element that stands for the product of these quaternions of the basis."""
        return self._products

    @property
    def pairings(self):
        """At r and s the pairing of these quaternions of the basis."""
        return self._pairings

    def multiplied(self, x, y):
        """The product of two elements."""
        check_element(x)
        check_element(y)
        return self._times(x, y)

    def _times(self, x, y):
        return tuple(mixed_row(x, [mixed_row(y, row, 4) for row in self._products], 4))

    def conjugated(self, x):
        """The conjugate of an element."""
        check_element(x)
        return self._back(x)

    def _back(self, x):
        trace = self._trace(x)
        return tuple([trace * entry - less for entry, less in zip(self.one, x)])

    def norm_of(self, x):
        """The norm of an element."""
        check_element(x)
        return self._pairing(x, x) // 2

    def trace_of(self, x):
        """The trace of an element."""
        check_element(x)
        return self._trace(x)

    def _trace(self, x):
        return self._pairing(x, self.one)

    def pairing(self, x, y):
        """The trace of the product of an element and the conjugate of another one."""
        check_element(x)
        check_element(y)
        return self._pairing(x, y)

    def _pairing(self, x, y):
        return sum([entry * other for entry, other in zip(y, mixed_row(x, self._pairings, 4))])

    def raised(self, x, many):
        """An element multiplied by itself so many times."""
        check_element(x)
        check_bounded(many, 0, MAX_POWER)
        power = self.one
        for _ in range(many):
            power = self._times(power, x)
        return power

    def quaternion_of(self, x):
        """The quaternion of an element, a tuple of four ratios."""
        check_element(x)
        return divided_row(mixed_row(x, self._tops, 4), self._bottom)

    def element_at(self, row):
        """The element that stands for a quaternion."""
        if not isinstance(row, tuple) or len(row) != 4 or not all([isinstance(entry, Ratio) for entry in row]):
            raise InvalidElement("a quaternion is a tuple of four ratios")
        tops, bottom = whole_row(row)
        found = _element_of(tops, bottom, self._units)
        if found is None:
            raise InvalidOperation("the quaternion is in the order")
        return found

    def elements_of(self, number):
        """The ascending tuple of all elements of a norm."""
        check_bounded(number, 0, MAX_NORM)
        return all_of_norm(self._pairings, number)

    def quotient(self, x, y):
        """The element by which another one is multiplied, from the left, to be the first one, or None."""
        check_element(x)
        check_element(y)
        norm = self._pairing(y, y) // 2
        if norm == 0:
            raise InvalidOperation("nothing is divided by zero")
        row = self._times(x, self._back(y))
        if any([entry % norm for entry in row]):
            return None
        return tuple([entry // norm for entry in row])

    def __eq__(self, other):
        return isinstance(other, Order) and self._prime == other.prime

    def __str__(self):
        return f"order of {self._prime}"
