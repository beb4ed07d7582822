"""The space of a level: symbols, paths between fractions, and their sums."""

from levelroads.base.mixes import whole_echelon
from levelroads.base.numbers import check_level, is_integer
from levelroads.base.ratios import Ratio, exact_ratio
from levelroads.base.tables import divided_row, kernel_of_whole, whole_row
from levelroads.errors import InvalidOperation, InvalidSum, InvalidTable
from levelroads.pair.pairs import check_pair, least_pair, pair_of, pairs
from levelroads.rim.groups import told_matrix
from levelroads.rim.rims import check_fraction, rims, told_rim
from levelroads.symbol.flows import basis_and_images, pair_numbers


def quotients(fraction):
    """The tuple of the quotients of a fraction, () for the endless one."""
    check_fraction(fraction)
    return _quotients(fraction)


def _quotients(fraction):
    high, low = fraction
    found = []
    while low:
        whole, rest = divmod(high, low)
        found.append(whole)
        high, low = low, rest
    return tuple(found)


def steps_to(level, fraction):
    """The tuple of the pairs whose symbols add up to the path from 0 to a fraction."""
    check_level(level)
    check_fraction(fraction)
    return tuple([least_pair(level, c, d) for c, d in _steps(fraction)])


def _steps(fraction):
    """The second rows, as they are, of the symbols that add up to the path from 0 to a fraction."""
    steps = [(0, 1)]
    last, bottom, sign = 1, 0, -1
    for whole in _quotients(fraction):
        last, bottom = bottom, whole * bottom + last
        steps.append((sign * bottom, last))
        sign = -sign
    return steps


def rims_of(level, pair):
    """The rims at which the symbol of a pair, as a path, begins and ends."""
    check_pair(level, pair)
    return _rims_of(level, pair)


def _rims_of(level, pair):
    start, end = path_ends(pair)
    return told_rim(level, start), told_rim(level, end)


def path_ends(pair):
    """The fractions between which the symbol of what surely is a pair is the path."""
    a, b, c, d = told_matrix(pair)
    return (b, d) if d else (1, 0), (a, c) if c else (1, 0)


def check_space(space):
    """Refuse what is no space."""
    if not isinstance(space, Space):
        raise InvalidOperation("a space is an object of Space")


def check_sum(told):
    """Refuse what is no sum."""
    if not isinstance(told, Sum):
        raise InvalidSum("a sum is an object of Sum")


def is_closed_row(space, value):
    """Whether a value is the row of a closed sum of a space."""
    check_space(space)
    return _is_row(space, value) and not any(_boundary_parts(space, value)[0])


def _is_row(space, value):
    if not isinstance(value, tuple) or len(value) != len(space.basis):
        return False
    return all([isinstance(multiple, Ratio) for multiple in value])


def _boundary_parts(space, row):
    """The multiples of all rims in a boundary, as integers, and the integer that divides them."""
    entries, times = whole_row(row)
    parts = [0] * len(space.rims)
    for entry, (start, end) in zip(entries, space.ends):
        parts[start] = parts[start] - entry
        parts[end] = parts[end] + entry
    return parts, times


class Space:
    """The space of a level. It never changes."""

    def __init__(self, level):
        check_level(level)
        self._level = level
        # What the sums of the space and the doings need of it, too.
        self.pairs = pairs(level)
        self.numbers = pair_numbers(level, self.pairs)
        places, images = basis_and_images(level, self.pairs, self.numbers)
        # What tells no pair is left out.
        self.images = images + ((),)
        self._basis = tuple([self.pairs[place] for place in places])
        self.rims = rims(level)
        self.ends = tuple([self._ends_of(pair) for pair in self._basis])
        zeros = [Ratio(0)] * len(self._basis)
        units = [zeros[:place] + [Ratio(1)] + zeros[place + 1:] for place in range(len(zeros))]
        self._symbols = tuple([Sum(self, tuple(row)) for row in units])
        self._zero = Sum(self, tuple(zeros))
        self._staying = None

    @property
    def level(self):
        """The level."""
        return self._level

    @property
    def basis(self):
        """The ascending tuple of the pairs of the basis."""
        return self._basis

    @property
    def zero(self):
        """The sum zero."""
        return self._zero

    def symbol(self, c, d):
        """The symbol of the pair that two integers tell."""
        first, second = pair_of(self._level, c, d)
        return Sum(self, divided_row(self.row_of_pair(first, second), 1))

    def path(self, one, other):
        """The path from one fraction to another one."""
        check_fraction(one)
        check_fraction(other)
        return self.sum_of_counts(self.path_counts(one, other))

    def sum_of(self, row):
        """The sum with a row."""
        if not _is_row(self, row):
            raise InvalidTable("a row has as many ratios as the basis has pairs")
        return Sum(self, row)

    def closed_rows(self):
        """The echelon of the rows of all closed sums."""
        return kernel_of_whole(self.boundaries())

    def boundaries(self):
        """The list of the boundaries of the symbols of the basis: the multiples of all rims, as integers."""
        table = []
        for start, end in self.ends:
            row = [0] * len(self.rims)
            row[start] = row[start] - 1
            row[end] = row[end] + 1
            table.append(row)
        return table

    def staying_half(self):
        """The echelon of the rows of all sums that have no boundary and are not changed if they are turned.

        It comes with what `whole_echelon` tells of it.
        """
        if self._staying is None:
            # Each doing on these sums needs them.
            rows = kernel_of_whole(self._changes())
            self._staying = rows, whole_echelon(rows)
        return self._staying

    def _changes(self):
        """The boundaries, and behind each one what is changed if the symbol is turned."""
        table = []
        for place, (boundary, (c, d)) in enumerate(zip(self.boundaries(), self._basis)):
            change = self.row_of_pair(-c, d)
            change[place] = change[place] - 1
            table.append(boundary + change)
        return table

    def path_counts(self, one, other):
        """How often the path between two fractions has the symbol of each pair."""
        return [many - less for many, less in zip(self.counts_of(_steps(other)), self.counts_of(_steps(one)))]

    def counts_of(self, told):
        """How often some second rows tell each pair."""
        counts = [0] * len(self.pairs)
        for c, d in told:
            index = self.numbers[c % self._level * self._level + d % self._level]
            counts[index] = counts[index] + 1
        return counts

    def row_of_pair(self, c, d):
        """The row, as integers, of the symbol of the pair that two integers surely tell."""
        row = [0] * len(self._basis)
        for place, sign in self.images[self.numbers[c % self._level * self._level + d % self._level]]:
            row[place] = row[place] + sign
        return row

    def row_of_counts(self, counts):
        """The row, as integers, of the sum that has the symbols of the pairs so often."""
        row = [0] * len(self._basis)
        for many, image in zip(counts, self.images):
            if many:
                for place, sign in image:
                    row[place] = row[place] + sign * many
        return row

    def sum_of_counts(self, counts):
        """The sum that has the symbols of the pairs so often."""
        return Sum(self, divided_row(self.row_of_counts(counts), 1))

    def _ends_of(self, pair):
        start, end = _rims_of(self._level, pair)
        return self.rims.index(start), self.rims.index(end)

    def __len__(self):
        return len(self._basis)

    def __iter__(self):
        return iter(self._symbols)

    def __eq__(self, other):
        return isinstance(other, Space) and self._level == other._level

    def __str__(self):
        return f"space of level {self._level}"


class Sum:
    """A sum of a space. It never changes."""

    def __init__(self, space, row):
        self._space = space
        self._row = row

    @property
    def level(self):
        """The level of the space."""
        return self._space.level

    @property
    def space(self):
        """The space."""
        return self._space

    @property
    def row(self):
        """The tuple of the multiples of the symbols of the basis."""
        return self._row

    @property
    def is_zero(self):
        """Whether the sum is zero."""
        return not any([multiple.top for multiple in self._row])

    @property
    def is_closed(self):
        """Whether the boundary is zero."""
        return not any(_boundary_parts(self._space, self._row)[0])

    def plus(self, other):
        """The sum with another one of the same level."""
        self._check_other(other)
        return Sum(self._space, tuple([one.plus(two) for one, two in zip(self._row, other.row)]))

    def minus(self, other):
        """The difference to another one of the same level."""
        self._check_other(other)
        return Sum(self._space, tuple([one.minus(two) for one, two in zip(self._row, other.row)]))

    def _check_other(self, other):
        check_sum(other)
        if other.level != self.level:
            raise InvalidOperation("both sums have the same level")

    def scaled(self, ratio):
        """The sum, multiplied by a ratio or an integer."""
        if not isinstance(ratio, Ratio) and not is_integer(ratio):
            raise InvalidOperation("a sum is multiplied by a ratio or an integer")
        return Sum(self._space, tuple([multiple.times(ratio) for multiple in self._row]))

    def boundary(self):
        """The dict from rims to ratios other than 0, which are their multiples."""
        parts, times = _boundary_parts(self._space, self._row)
        return {rim: exact_ratio(part, times) for rim, part in zip(self._space.rims, parts) if part}

    def __eq__(self, other):
        return isinstance(other, Sum) and self.level == other.level and self._row == other._row

    def __str__(self):
        told = [f"{multiple}*{pair}" for pair, multiple in zip(self._space.basis, self._row) if multiple.top]
        if not told:
            return "0"
        return " + ".join(told)
