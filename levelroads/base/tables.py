"""Tables of ratios: echelons, kernels, products, determinants and polynomials."""

from math import gcd, lcm

from levelroads.base.numbers import inverse_modulo, is_integer
from levelroads.base.ratios import Ratio, exact_ratio
from levelroads.errors import InvalidOperation, InvalidTable, Refused, TooMany

MAX_ROWS = 240
MAX_SQUARE = 40

# From so many columns on, it pays to ask a prime number first whether the rank is full.
_LARGE = 50
_PRIME = 2 ** 61 - 1


def table_of(rows):
    """The table with some rows of ratios and integers."""
    if not _is_grid(rows) or not all([_is_entry(entry) for row in rows for entry in row]):
        raise InvalidTable("rows are a tuple of tuples of equally many ratios and integers")
    return tuple([tuple([_ratio_of(entry) for entry in row]) for row in rows])


def _is_grid(value):
    if not isinstance(value, tuple) or len(value) > MAX_ROWS:
        return False
    if not all([isinstance(row, tuple) for row in value]):
        return False
    width = _width_of(value)
    return width <= MAX_ROWS and all([len(row) == width for row in value])


def _is_entry(value):
    return isinstance(value, Ratio) or is_integer(value)


def _ratio_of(entry):
    return entry if isinstance(entry, Ratio) else Ratio(entry)


def _width_of(table):
    return len(table[0]) if table else 0


def is_table(value):
    """Whether a value is a table."""
    return _is_grid(value) and all([isinstance(entry, Ratio) for row in value for entry in row])


def check_table(table):
    """Refuse what is no table."""
    if not is_table(table):
        raise InvalidTable("a table is a tuple of tuples of equally many ratios, at most 240 by 240")


def _check_square(table):
    if len(table) != _width_of(table):
        raise InvalidOperation("the table has as many rows as columns")


# Below, rows of ratios are multiplied by an integer each, so that they become lists of integers:
# multiples do not matter for mixes, and integers need no lowest terms at each step.


def whole_row(row):
    """The integers of a row and the integer by which the row was multiplied."""
    times = 1
    for entry in row:
        times = lcm(times, entry.bottom)
    return [entry.top * (times // entry.bottom) for entry in row], times


def _whole_rows(rows):
    return [whole_row(row)[0] for row in rows]


def divided_row(row, times):
    """The row of ratios of which a row of integers is a multiple."""
    return tuple([exact_ratio(entry, times) for entry in row])


def mixed_row(multiples, rows, width):
    """The sum of some rows of integers, all of this width, each one multiplied by an integer."""
    mixed = [0] * width
    for many, row in zip(multiples, rows):
        if many:
            mixed = [entry + many * other for entry, other in zip(mixed, row)]
    return mixed


def _shortened(row):
    """A row of integers, divided by what divides all of them."""
    shared = 0
    for entry in row:
        shared = gcd(shared, entry)
        if shared == 1:
            return row
    return [entry // shared for entry in row] if shared else row


def _cleared(row, lead, column):
    """A row, some multiple of another one less, such that it has 0 in a column."""
    shared = gcd(row[column], lead[column])
    up, down = lead[column] // shared, row[column] // shared
    return _shortened([up * entry - down * other for entry, other in zip(row, lead)])


def _figures_of(row):
    return sum([entry.bit_length() for entry in row])


def _steps_of(rows, width):
    """Free rows with the mixes of some rows: pairs of the first column, below a width, and the row."""
    rest = [_shortened(row) for row in rows]
    steps = []
    for column in range(width):
        met = [row for row in rest if row[column]]
        if met:
            # A short row to begin with keeps the integers of the others short.
            lead = min(met, key=_figures_of)
            met.remove(lead)
            cleared = [_cleared(row, lead, column) for row in met]
            rest = [row for row in rest if not row[column]] + [row for row in cleared if any(row)]
            steps.append((column, lead))
    return steps


def _is_surely_full(rows, width):
    """Whether rows of this width have the rank `width` modulo a prime number, and so the same rank at all.

    If they have not, nothing is told: the prime number may divide what should not be 0.
    """
    rest = [[entry % _PRIME for entry in row] for row in rows]
    for _ in range(width):
        met = [row for row in rest if row[0]]
        if not met:
            return False
        lead = met[0]
        inverse = inverse_modulo(_PRIME, lead[0])
        cleared = [_residue_step(row, lead, row[0] * inverse % _PRIME) for row in met[1:]]
        rest = [row[1:] for row in rest if not row[0]] + cleared
    return True


def _residue_step(row, lead, times):
    return [(entry - times * other) % _PRIME for entry, other in zip(row[1:], lead[1:])]


def _unit_row(size, place):
    return [1 if at == place else 0 for at in range(size)]


def _full_steps(rows, width):
    """The steps of some rows, with 0 in the first columns of all other steps."""
    ends_there = all([len(row) == width for row in rows])
    if width >= _LARGE and ends_there and _is_surely_full(rows, width):
        return [(column, _unit_row(width, column)) for column in range(width)]
    done = []
    for column, row in reversed(_steps_of(rows, width)):
        times = 1
        for at, lower in done:
            times = lcm(times, lower[at] // gcd(lower[at], row[at]))
        cleared = [times * entry for entry in row]
        for at, lower in done:
            if row[at]:
                many = times * row[at] // lower[at]
                cleared = [entry - many * other for entry, other in zip(cleared, lower)]
        done.append((column, _shortened(cleared)))
    return done[::-1]


def echelon(table):
    """The echelon with the mixes of a table."""
    check_table(table)
    return echelon_of_whole(_whole_rows(table))


def echelon_of_whole(rows):
    """The same for rows of integers."""
    return tuple([divided_row(row, row[column]) for column, row in _full_steps(rows, _width_of(rows))])


def free_multiples(rows):
    """The rows of the echelon with the mixes of rows of integers, each one multiplied by some integer."""
    return [row for _, row in _full_steps(rows, _width_of(rows))]


def rank_of(table):
    """The number of the rows of the echelon."""
    check_table(table)
    return _rank(table)


def _rank(table):
    rows, width = _whole_rows(table), _width_of(table)
    if width > len(rows):
        # The columns have the same rank, and it can be full.
        rows, width = list(zip(*rows)), len(rows)
    if width >= _LARGE and _is_surely_full(rows, width):
        return width
    return len(_steps_of(rows, width))


def kernel_of(table):
    """The echelon of the rows whose product with a table has only zeros."""
    check_table(table)
    turned = table[::-1]
    return _kernel(_whole_rows(list(zip(*turned))), len(table))


def kernel_of_whole(rows):
    """The same for rows of integers."""
    turned = rows[::-1]
    # Many columns are alike, as a rule.
    return _kernel(list({column: True for column in zip(*turned)}), len(rows))


def _kernel(columns, size):
    """The kernel of a table of so many rows, by columns of integers that begin with the last row.

    So what is told for each free place below begins with the 1 of this place.
    """
    steps = _full_steps(columns, size)
    bound = [column for column, _ in steps]
    free = [place for place in range(size) if place not in bound]
    return tuple([_kernel_row(steps, place, size) for place in free[::-1]])


def _kernel_row(steps, place, size):
    row = [Ratio(0)] * size
    row[place] = Ratio(1)
    for column, lead in steps:
        if lead[place]:
            row[column] = exact_ratio(-lead[place], lead[column])
    return tuple(row[::-1])


def table_product(one, other):
    """The product of two tables."""
    check_table(one)
    check_table(other)
    if one and _width_of(one) != len(other):
        raise InvalidOperation("the first table has as many columns as the second one has rows")
    return _product(one, other)


def _product(one, other):
    columns = [whole_row(column) for column in zip(*other)]
    return tuple([_product_row(row, columns) for row in one])


def whole_product(one, other):
    """The product of two tables of integers, as lists."""
    columns = list(zip(*other))
    return [[_dot(row, column) for column in columns] for row in one]


def _product_row(row, columns):
    entries, times = whole_row(row)
    return tuple([exact_ratio(_dot(entries, column), times * many) for column, many in columns])


def _dot(row, column):
    return sum([entry * other for entry, other in zip(row, column)])


def determinant_of(table):
    """The determinant of a table with as many rows as columns."""
    _check_measured(table)
    rows, bottom = [], 1
    for row in table:
        entries, times = whole_row(row)
        rows.append(entries)
        bottom = bottom * times
    return exact_ratio(_whole_determinant(rows), bottom)


def _check_measured(table):
    check_table(table)
    _check_square(table)
    if len(table) > MAX_SQUARE:
        raise TooMany(MAX_SQUARE)


def _whole_determinant(rows):
    """The determinant of integers, by steps whose divisions leave no rest."""
    last, sign = 1, 1
    rest = rows
    while rest:
        met = [k for k, row in enumerate(rest) if row[0]]
        if not met:
            return 0
        # To bring the row to the top, it is exchanged with each row above it.
        if met[0] % 2:
            sign = -sign
        lead = rest[met[0]]
        others = rest[:met[0]] + rest[met[0] + 1:]
        rest = [_exact_step(row, lead, last) for row in others]
        last = lead[0]
    return sign * last


def _exact_step(row, lead, last):
    return [(lead[0] * entry - row[0] * other) // last for entry, other in zip(row[1:], lead[1:])]


def polynomial_of(table):
    """The polynomial of a table with as many rows as columns."""
    _check_measured(table)
    times = 1
    for row in table:
        times = lcm(times, whole_row(row)[1])
    rows = [[entry.top * (times // entry.bottom) for entry in row] for row in table]
    ratios = []
    bottom = 1
    for factor in whole_polynomial(rows):
        ratios.append(exact_ratio(factor, bottom))
        bottom = bottom * times
    return tuple(ratios[::-1])


def whole_polynomial(rows):
    """The polynomial of integers, that of the highest power first, without any division.

    The table of the first rows and columns is made wider by one at a time; what that does to
    its polynomial is told by the products of the new row, the powers of the table and the new column.
    """
    poly = [1]
    for size, row in enumerate(rows):
        column = [above[size] for above in rows[:size]]
        factors = [1, -row[size]]
        for _ in range(size):
            factors.append(-_dot(column, row))
            column = [_dot(column, above) for above in rows[:size]]
        poly = [_dot(poly, factors[k::-1]) for k in range(size + 2)]
    return poly


def restricted(table, rows):
    """What a table does on some free rows, as a table."""
    check_table(table)
    check_table(rows)
    _check_square(table)
    if rows and _width_of(rows) != len(table):
        raise InvalidOperation("the rows have as many ratios as the table")
    steps = _told_steps(rows)
    if len(steps) < len(rows):
        raise InvalidOperation("the rows are free")
    found = []
    for index, row in enumerate(_product(rows, table)):
        mix = _mix_of(steps, row)
        if mix is None:
            raise Refused(("left", index))
        found.append(mix)
    return tuple(found)


def _told_steps(rows):
    """The full steps of some rows; behind each one stands of which multiples of the rows it is the sum."""
    told = []
    for index, row in enumerate(rows):
        entries, times = whole_row(row)
        multiples = [0] * len(rows)
        multiples[index] = times
        told.append(entries + multiples)
    return _full_steps(told, _width_of(rows))


def multiples_in(rows, row):
    """The tuple of the multiples of some free rows that add up to a row, or None."""
    return _mix_of(_told_steps(rows), row)


def _mix_of(steps, row):
    """The multiples of the rows, of which steps are told, that add up to a row, or None."""
    entries, many = whole_row(row)
    times = 1
    for column, lead in steps:
        times = lcm(times, lead[column])
    mixed = [0] * (len(row) + len(steps))
    for column, lead in steps:
        factor = entries[column] * (times // lead[column])
        mixed = [entry + factor * other for entry, other in zip(mixed, lead)]
    if mixed[:len(row)] != [times * entry for entry in entries]:
        return None
    return divided_row(mixed[len(row):], times * many)


def is_free(table, value):
    """Whether a value is a table of free rows, each of them a mix of the rows of a table."""
    check_table(table)
    if not is_table(value):
        return False
    if not value:
        return True
    if not table or _width_of(table) != _width_of(value):
        return False
    return _rank(value) == len(value) and _rank(table + value) == _rank(table)
