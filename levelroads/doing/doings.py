"""The doings on sums of paths, turning and exchanging, and their tables on the parts of a space."""

from levelroads.base.mixes import whole_echelon
from levelroads.base.numbers import check_bounded, divisors, prime_powers
from levelroads.base.tables import divided_row, mixed_row, whole_product, whole_row
from levelroads.errors import UnknownName
from levelroads.rim.rims import led_fraction
from levelroads.symbol.symbols import Sum, check_space, check_sum, path_ends

MAX_DOING = 60
PARTS = ("all", "closed", "staying")


def check_doing(number):
    """Refuse what is no integer from 1 to 60."""
    check_bounded(number, 1, MAX_DOING)


def _check_part(part):
    if not isinstance(part, str) or part not in PARTS:
        raise UnknownName(part)


def matrices_of(number):
    """The ascending tuple of the matrices of a number."""
    check_doing(number)
    # With i = a - b and j = d - c, both above 0, the determinant is j * a + i * c: so i divides what j * a leaves.
    found = []
    for a in range(1, number + 1):
        for j in range(1, number // a + 1):
            rest = number - j * a
            found.extend([(a, a - i, rest // i, rest // i + j) for i in range(1, a + 1) if rest % i == 0])
    return tuple(sorted(found))


# Other matrices than those of n tell T_n, too. These are fewer, above all for great n: for each (a, -b, 0, n / a), a
# being a divisor of n and b one of each residue modulo a, a path is cut into symbols by the integers that are nearest
# to quotients, as the path from 0 to a fraction is cut by the greatest ones that are not above them.


def _few_matrices(number):
    """Matrices that lead a pair to pairs whose symbols add up to what T_n, n being the number, makes of its symbol."""
    found = []
    for a in divisors(number):
        for b in range(-((a - 1) // 2), a // 2 + 1):
            x, y, z, w = a, -b, 0, number // a
            found.append((x, y, z, w))
            high, low = -a, b
            while low:
                nearest = (2 * high + low) // (2 * low)
                high, low = -low, high - nearest * low
                x, y, z, w = y, nearest * y - x, w, nearest * w - z
                found.append((x, y, z, w))
    return found


# Below, the images are a list of rows of integers: of those to which the symbols of the basis are led.


def doing_images(space, number, rows):
    """The images by T_n, n being the number; those that no mix of some rows of integers needs are zeros."""
    matrices = _few_matrices(number)
    images = []
    for place, pair in enumerate(space.basis):
        if any([row[place] for row in rows]):
            images.append(_doing_image(space, pair, matrices))
        else:
            images.append([0] * len(space))
    return images


def _doing_image(space, pair, matrices):
    level, numbers, images = space.level, space.numbers, space.images
    c, d = pair
    row = [0] * len(space)
    for x, y, z, w in matrices:
        for place, sign in images[numbers[(c * x + d * z) % level * level + (c * y + d * w) % level]]:
            row[place] += sign
    return row


def _turned_images(space):
    return [space.row_of_pair(-c, d) for c, d in space.basis]


def _exchanged_images(space):
    matrix = (0, -1, space.level, 0)
    images = []
    for pair in space.basis:
        start, end = path_ends(pair)
        images.append(space.row_of_counts(space.path_counts(led_fraction(matrix, start), led_fraction(matrix, end))))
    return images


def _led_sum(told, images):
    entries, times = whole_row(told.row)
    return Sum(told.space, divided_row(mixed_row(entries, images, len(images)), times))


# What happens to the rows of an echelon, which are led to mixes of them, is a table. The echelon is told as
# `whole_echelon` tells it, and the table by integers that are divided by another one.


def _table_on(rows, images):
    told = whole_echelon(rows)
    return tuple([divided_row(row, told[2]) for row in whole_table(told, images)])


def whole_table(told, images):
    """The integers of the table on an echelon; what divides them is what divides those of the echelon."""
    leads, rows, _ = told
    needed = [[image[lead] for lead in leads] for image in images]
    return [mixed_row(row, needed, len(rows)) for row in rows]


def doing_on(space, told, number):
    """The integers of the table of T_n, n being the number, on an echelon, and what divides them.

    All T_m, with m a divisor of n, lead the mixes of the echelon to such.
    """
    table, bottom = _unit_rows(len(told[1])), 1
    for prime, times in prime_powers(number).items():
        power, divisor = _power_on(space, told, prime, times)
        table, bottom = whole_product(table, power), bottom * divisor
    return table, bottom


def _power_on(space, told, prime, times):
    """The same for a power of a prime."""
    _, rows, bottom = told
    table = whole_table(told, doing_images(space, prime, rows))
    last, power, divisor = _unit_rows(len(rows)), table, bottom
    for _ in range(times - 1):
        further = whole_product(power, table)
        if space.level % prime:
            many = prime * bottom * bottom
            further = [[entry - many * less for entry, less in zip(row, below)] for row, below in zip(further, last)]
        last, power, divisor = power, further, divisor * bottom
    return power, divisor


def done(told, number):
    """The sum to which T_n, n being the number, leads a sum."""
    check_sum(told)
    check_doing(number)
    return _led_sum(told, doing_images(told.space, number, [whole_row(told.row)[0]]))


def turned(told):
    """The sum, turned."""
    check_sum(told)
    return _led_sum(told, _turned_images(told.space))


def exchanged(told):
    """The sum, exchanged."""
    check_sum(told)
    return _led_sum(told, _exchanged_images(told.space))


def is_staying(told):
    """Whether a sum is closed and, turned, the same."""
    check_sum(told)
    return told.is_closed and turned(told) == told


def part_rows(space, *, part="all"):
    """The rows of a part of a space."""
    check_space(space)
    _check_part(part)
    return _rows_of(space, part)


def _rows_of(space, part):
    if part == "closed":
        return space.closed_rows()
    if part == "staying":
        return space.staying_half()[0]
    return tuple([divided_row(row, 1) for row in _unit_rows(len(space))])


def _unit_rows(size):
    return [[1 if at == place else 0 for at in range(size)] for place in range(size)]


def doing_table(space, number, *, part="all"):
    """The table of T_n, n being the number, on a part of a space."""
    check_space(space)
    check_doing(number)
    _check_part(part)
    rows = _rows_of(space, part)
    return _table_on(rows, doing_images(space, number, whole_echelon(rows)[1]))


def exchange_table(space, *, part="all"):
    """The table of exchanging on a part of a space."""
    check_space(space)
    _check_part(part)
    return _table_on(_rows_of(space, part), _exchanged_images(space))


def exchange_signs(space):
    """The dimensions of the staying sums that are the same exchanged, and of those that become their opposites."""
    check_space(space)
    _, told = space.staying_half()
    table = whole_table(told, _exchanged_images(space))
    # Exchanged twice, each sum is as it was: so the diagonal adds up to the difference of both dimensions.
    difference = sum([row[place] for place, row in enumerate(table)]) // told[2]
    return (len(table) + difference) // 2, (len(table) - difference) // 2
