"""The doings on sums of paths, turning and exchanging, and their tables on the parts of a space."""

from levelroads.base.mixes import lead_places
from levelroads.base.numbers import check_bounded
from levelroads.base.ratios import Ratio
from levelroads.base.tables import divided_row, kernel_of, mixed_row, whole_row
from levelroads.errors import UnknownName
from levelroads.rim.rims import led_fraction
from levelroads.symbol.symbols import Sum, check_space, check_sum, path_ends

MAX_DOING = 60
PARTS = ("all", "closed", "staying")


def check_doing(number):
    """Refuse what is no integer from 1 to 60."""
    check_bounded(number, 1, MAX_DOING)


def _check_part(part):
    if not isinstance(part, str) or part not in PARTS:
        raise UnknownName(part)


def matrices_of(number):
    """The ascending tuple of the matrices of a number."""
    check_doing(number)
    return _matrices(number)


def _matrices(number):
    found = []
    for a in range(1, number + 1):
        for b in range(a):
            for c, d in _lower_rows(a, b, number):
                found.append((a, b, c, d))
    return tuple(found)


def _lower_rows(a, b, number):
    """The ascending list of all (c, d) with a * d - b * c == number and d > c >= 0."""
    if b == 0:
        return [(c, number // a) for c in range(number // a)] if number % a == 0 else []
    # The integer c grows with d, and behind the last d it is not below it any more.
    behind = (number - 1) // (a - b) + 1
    rows = []
    for d in range((number - 1) // a + 1, behind):
        c, rest = divmod(a * d - number, b)
        if rest == 0:
            rows.append((c, d))
    return rows


# Below, the images are a list of rows of integers: of those to which the symbols of the basis are led.


def doing_images(space, number, rows):
    """The images by T_n, n being the number; those that no mix of some rows needs are zeros."""
    matrices = _matrices(number)
    images = []
    for place, pair in enumerate(space.basis):
        if any([row[place].top for row in rows]):
            images.append(_doing_image(space, pair, matrices))
        else:
            images.append([0] * len(space))
    return images


def _doing_image(space, pair, matrices):
    level, numbers = space.level, space.numbers
    c, d = pair
    counts = [0] * (len(space.pairs) + 1)
    for x, y, z, w in matrices:
        counts[numbers[(c * x + d * z) % level * level + (c * y + d * w) % level]] += 1
    return space.row_of_counts(counts)


def _turned_images(space):
    return [space.row_of_counts(space.counts_of([(-c, d)])) for c, d in space.basis]


def _exchanged_images(space):
    matrix = (0, -1, space.level, 0)
    images = []
    for pair in space.basis:
        start, end = path_ends(pair)
        images.append(space.row_of_counts(space.path_counts(led_fraction(matrix, start), led_fraction(matrix, end))))
    return images


def _led_sum(told, images):
    entries, times = whole_row(told.row)
    return Sum(told.space, divided_row(mixed_row(entries, images, len(images)), times))


def table_on(rows, images):
    """The table of what happens to the rows of an echelon, which are led to mixes of them."""
    leads = lead_places(rows)
    table = []
    for row in rows:
        entries, times = whole_row(row)
        led = mixed_row(entries, images, len(images))
        table.append(divided_row([led[lead] for lead in leads], times))
    return tuple(table)


def done(told, number):
    """The sum to which T_n, n being the number, leads a sum."""
    check_sum(told)
    check_doing(number)
    return _led_sum(told, doing_images(told.space, number, (told.row,)))


def turned(told):
    """The sum, turned."""
    check_sum(told)
    return _led_sum(told, _turned_images(told.space))


def exchanged(told):
    """The sum, exchanged."""
    check_sum(told)
    return _led_sum(told, _exchanged_images(told.space))


def is_staying(told):
    """Whether a sum is closed and, turned, the same."""
    check_sum(told)
    return told.is_closed and turned(told) == told


def part_rows(space, *, part="all"):
    """The rows of a part of a space."""
    check_space(space)
    _check_part(part)
    return _rows_of(space, part)


def _rows_of(space, part):
    if part == "closed":
        return space.closed_rows()
    if part == "staying":
        return staying_rows(space)
    return tuple([divided_row(row, 1) for row in _unit_rows(len(space))])


def _unit_rows(size):
    return [[1 if at == place else 0 for at in range(size)] for place in range(size)]


def staying_rows(space):
    """The rows of the staying sums of a space: what has no boundary and is not changed if it is turned."""
    table = []
    for unit, boundary, image in zip(_unit_rows(len(space)), space.boundaries(), _turned_images(space)):
        change = [entry - same for entry, same in zip(image, unit)]
        table.append(divided_row(boundary + change, 1))
    return kernel_of(tuple(table))


def doing_table(space, number, *, part="all"):
    """The table of T_n, n being the number, on a part of a space."""
    check_space(space)
    check_doing(number)
    _check_part(part)
    rows = _rows_of(space, part)
    return table_on(rows, doing_images(space, number, rows))


def exchange_table(space, *, part="all"):
    """The table of exchanging on a part of a space."""
    check_space(space)
    _check_part(part)
    return table_on(_rows_of(space, part), _exchanged_images(space))


def exchange_signs(space):
    """The dimensions of the staying sums that are the same exchanged, and of those that become their opposites."""
    check_space(space)
    rows = staying_rows(space)
    # Exchanged twice, each sum is as it was: so the diagonal adds up to the difference of both dimensions.
    difference = Ratio(0)
    for place, row in enumerate(table_on(rows, _exchanged_images(space))):
        difference = difference.plus(row[place])
    return (len(rows) + difference.top) // 2, (len(rows) - difference.top) // 2
