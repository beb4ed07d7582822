"""What lowering leads from a level to those that divide it, what is new at a level, and where kinds are at home."""

from levelroads.base.numbers import check_bounded, check_level, divisors, prime_powers
from levelroads.base.tables import divided_row, echelon, kernel_of, mixed_row, table_product, whole_row
from levelroads.doing.doings import is_staying
from levelroads.errors import InvalidOperation, TooMany
from levelroads.kind.kinds import Kind
from levelroads.rim.groups import genus
from levelroads.rim.rims import led_fraction
from levelroads.symbol.symbols import Space, check_space, check_sum, path_ends
from levelroads.trace.traces import newness

_MAX_TIMES = 100
_MAX_LEVEL = 60


def lowered(told, space, times):
    """The sum of a space to which lowering by an integer leads a sum."""
    check_sum(told)
    check_space(space)
    check_bounded(times, 1, _MAX_TIMES)
    if told.level % space.level or told.level // space.level % times:
        raise InvalidOperation("the level of the space divides that of the sum, and the integer the quotient")
    images = _lowered_images(told.space, space, times, [told.row])
    return space.sum_of(_lowered_row(told.row, images, len(space)))


def _lowered_images(above, space, times, rows):
    """To which rows of integers the symbols of a basis are lowered; those that no mix of some rows needs are zeros."""
    images = []
    for place, pair in enumerate(above.basis):
        if not any([row[place].top for row in rows]):
            images.append([0] * len(space))
        elif times == 1:
            # The path of a matrix is the symbol of its pair at each level.
            images.append(space.row_of_pair(pair[0], pair[1]))
        else:
            one, other = path_ends(pair)
            counts = space.path_counts(_multiple_of(one, times), _multiple_of(other, times))
            images.append(space.row_of_counts(counts))
    return images


def _multiple_of(fraction, times):
    return led_fraction((times, 0, 0, 1), fraction)


def _lowered_row(row, images, width):
    entries, times = whole_row(row)
    return divided_row(mixed_row(entries, images, width), times)


def new_dimension(level):
    """The dimension of the new sums of a level."""
    check_level(level)
    return _new_dimension(level)


def _new_dimension(level):
    return sum([newness(level // below) * genus(below) for below in divisors(level)])


def old_dimension(level):
    """The genus of a level, less the new dimension."""
    return genus(level) - _new_dimension(level)


def new_rows(space):
    """The echelon of the rows of all new sums of a space."""
    check_space(space)
    _check_level(space.level)
    rows, _ = space.staying_half()
    if not rows:
        return ()
    return table_product(kernel_of(_all_lowered(space, rows)), rows)


def _check_level(level):
    if level > _MAX_LEVEL:
        raise TooMany(_MAX_LEVEL)


def _all_lowered(space, rows):
    """For each one of some rows the ratios, one behind the other, to which those lowerings lead it that tell the new.
    """
    table = [()] * len(rows)
    for prime in prime_powers(space.level):
        below = Space(space.level // prime)
        for times in (1, prime):
            images = _lowered_images(space, below, times, rows)
            table = [told + _lowered_row(row, images, len(below)) for told, row in zip(table, rows)]
    return tuple(table)


def is_new(told):
    """Whether a sum is a staying one that all lowerings to lesser levels lead to zero."""
    return is_staying(told) and not any([entry.top for entry in _all_lowered(told.space, (told.row,))[0]])


def _check_kind(kind):
    if not isinstance(kind, Kind):
        raise InvalidOperation("a kind is an object of Kind")
    _check_level(kind.level)


def _home(kind):
    """The home of a kind."""
    level = kind.level
    homes = [below for below in divisors(level)
             if len(divisors(level // below)) == kind.fold and _new_dimension(below) >= kind.degree]
    # Often there is one such level alone. If not, none of them divides another one, and lowering by 1 leads a kind to
    # zero at all levels but the multiples of its home.
    for below in homes[:-1]:
        if _rows_at(kind, Space(below)):
            return below
    return homes[-1]


def _rows_at(kind, space):
    """The echelon of the rows to which lowering by 1 leads the sums of a kind, for a level that divides its own."""
    images = _lowered_images(kind.space, space, 1, kind.rows)
    return echelon(tuple([_lowered_row(row, images, len(space)) for row in kind.rows]))


def home_of(kind):
    """The home of a kind."""
    _check_kind(kind)
    return _home(kind)


def copies_of(kind):
    """The number of the divisors of the level of a kind divided by its home."""
    _check_kind(kind)
    return kind.fold


def home_kind(kind):
    """The kind of the home to which all lowerings lead a kind."""
    _check_kind(kind)
    home = _home(kind)
    if home == kind.level:
        return kind
    space = Space(home)
    return Kind(space, _rows_at(kind, space), kind.degree)
