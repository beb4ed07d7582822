"""The kinds into which the staying half of a space falls, and what the doings do on each of them."""

from levelroads.base.mixes import is_mix, whole_echelon
from levelroads.base.numbers import check_proper, is_prime
from levelroads.base.polys import poly_factors
from levelroads.base.tables import kernel_of_whole, multiples_in, table_product, whole_polynomial, whole_product
from levelroads.doing.doings import check_doing, doing_images, doing_on, is_staying, whole_table
from levelroads.errors import InvalidOperation
from levelroads.symbol.symbols import Sum, check_space, check_sum

MAX_PARTING = 17


def doing_polynomial(space, number):
    """The polynomial of T_n, n being the number, on the staying half of a space."""
    check_space(space)
    check_doing(number)
    table, bottom = doing_on(space, space.staying_half()[1], number)
    return _divided_polynomial(table, bottom)


def _divided_polynomial(table, bottom):
    """The polynomial, of integers, of a table of integers that are divided by another one."""
    entries = []
    many = 1
    for factor in whole_polynomial(table):
        entries.append(factor // many)
        many = many * bottom
    return tuple(entries[::-1])


def kinds(space):
    """The tuple of all kinds of the level of a space, in order."""
    check_space(space)
    rows, whole = space.staying_half()
    primes = [prime for prime in range(2, MAX_PARTING + 1) if is_prime(prime) and space.level % prime]
    images = [doing_images(space, prime, whole[1]) for prime in primes]
    found = []
    for part, degree in _parted(rows, images):
        told = whole_echelon(part)
        polynomials = tuple([_divided_polynomial(whole_table(told, some), told[2]) for some in images])
        found.append((len(part), polynomials, Kind(space, part, degree)))
    ordered = sorted(found, key=lambda row: (row[0], row[1]))
    return tuple([kind for _, _, kind in ordered])


def _parted(rows, images):
    """The rows of each kind and its degree, told by the images of the doings of some primes."""
    parts = [(rows, 0)] if rows else []
    for some in images:
        parts = [piece for part, degree in parts for piece in _pieces(part, degree, some)]
    return parts


def _pieces(part, degree, images):
    """A part as a list of the lesser parts on which the polynomial of one doing is a power of an irreducible one.

    The degree is the greatest one of these irreducible polynomials so far.
    """
    if degree == len(part):
        # What all doings make of one sum is all of the part: it does not fall any more.
        return [(part, degree)]
    told = whole_echelon(part)
    table, bottom = whole_table(told, images), told[2]
    factors = poly_factors(_divided_polynomial(table, bottom))
    if len(factors) == 1:
        return [(part, max(degree, len(factors[0][0]) - 1))]
    pieces = []
    for factor, _ in factors:
        rows = table_product(kernel_of_whole(_value_at(factor, table, bottom)), part)
        pieces.append((rows, max(degree, len(factor) - 1)))
    return pieces


def _value_at(poly, table, bottom):
    """What a polynomial becomes if a table is put for X, multiplied by an integer that makes all entries integers.

    The table is one of integers that are divided by another one.
    """
    value = _diagonal(len(table), poly[-1])
    many = 1
    for entry in poly[-2::-1]:
        many = many * bottom
        value = whole_product(value, table)
        for place, row in enumerate(value):
            row[place] += many * entry
    return value


def _diagonal(size, entry):
    return [[entry if at == place else 0 for at in range(size)] for place in range(size)]


class Kind:
    """A kind of the level of a space. It never changes."""

    def __init__(self, space, rows, degree):
        self._space = space
        self._rows = rows
        self._degree = degree

    @property
    def level(self):
        """The level."""
        return self._space.level

    @property
    def space(self):
        """The space."""
        return self._space

    @property
    def rows(self):
        """The echelon of the rows of the sums of the kind."""
        return self._rows

    @property
    def dimension(self):
        """The dimension of the sums of the kind."""
        return len(self._rows)

    @property
    def degree(self):
        """The dimension of what the doings of proper numbers do on the kind."""
        return self._degree

    @property
    def fold(self):
        """The dimension, divided by the degree."""
        return len(self._rows) // self._degree

    @property
    def is_line(self):
        """Whether the degree is 1."""
        return self._degree == 1

    def polynomial(self, number):
        """The polynomial of T_n, n being the number, on the kind."""
        self._check_proper(number)
        table, bottom = doing_on(self._space, whole_echelon(self._rows), number)
        return _divided_polynomial(table, bottom)

    def base(self, number):
        """The irreducible polynomial of which the polynomial is a power."""
        return poly_factors(self.polynomial(number))[0][0]

    def value_of(self, number):
        """The integer by which T_n, n being the number, multiplies the sums of a kind of the degree 1."""
        self._check_proper(number)
        if self._degree > 1:
            raise InvalidOperation("the kind has the degree 1")
        table, bottom = doing_on(self._space, whole_echelon(self._rows[:1]), number)
        return table[0][0] // bottom

    def _check_proper(self, number):
        check_doing(number)
        check_proper(self._space.level, number)

    def __contains__(self, x):
        return isinstance(x, Sum) and x.level == self.level and is_mix(self._rows, x.row)

    def __len__(self):
        return len(self._rows)

    def __eq__(self, other):
        return isinstance(other, Kind) and self.level == other.level and self._rows == other.rows

    def __str__(self):
        return f"kind of {len(self._rows)} at {self.level}"


def is_kind_table(space, value):
    """Whether a value is the rows of a kind of the level of a space."""
    check_space(space)
    return any([kind.rows == value for kind in kinds(space)])


def _check_staying(told):
    check_sum(told)
    if not is_staying(told):
        raise InvalidOperation("the sum is a staying one")


def kind_of(told):
    """The kind in which a staying sum other than zero lies, or None."""
    _check_staying(told)
    if told.is_zero:
        raise InvalidOperation("the sum zero lies in all kinds")
    for kind in kinds(told.space):
        if told in kind:
            return kind
    return None


def shares_of(told):
    """The tuple of the sums, one of each kind, that add up to a staying sum."""
    _check_staying(told)
    found = kinds(told.space)
    rest = multiples_in(tuple([row for kind in found for row in kind.rows]), told.row)
    shares = []
    for kind in found:
        row = table_product((rest[:len(kind)],), kind.rows)[0]
        shares.append(told.space.sum_of(row))
        rest = rest[len(kind):]
    return tuple(shares)
