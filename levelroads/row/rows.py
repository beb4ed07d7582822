"""Rows: power series in q as far as they are known, products of powers of one of them, and what the doings make."""

from math import gcd

from levelroads.base.numbers import check_bounded, check_level, divisors, is_integer
from levelroads.base.ratios import Ratio, exact_ratio
from levelroads.base.tables import divided_row, whole_row
from levelroads.errors import InvalidOperation, InvalidRow, InvalidTable

MAX_ROW = 400
MAX_RAISED = 60
MAX_LED = 60

_MAX_PARTS = 10
_MAX_EXPONENT = 24


def _check_row(row):
    if not isinstance(row, Row):
        raise InvalidRow("a row is an object of Row")


def _check_size(size):
    check_bounded(size, 1, MAX_ROW)


def _is_entry(value):
    return isinstance(value, Ratio) or is_integer(value)


class Row:
    """A power series in q as far as it is known. It never changes."""

    def __init__(self, entries):
        if not isinstance(entries, tuple) or not 1 <= len(entries) <= MAX_ROW:
            raise InvalidRow("the entries are a tuple of 1 to 400 integers and ratios")
        if not all([_is_entry(entry) for entry in entries]):
            raise InvalidRow("each entry is an integer or a ratio")
        self._entries = tuple([entry if isinstance(entry, Ratio) else Ratio(entry) for entry in entries])

    @property
    def entries(self):
        """The tuple of the entries, ratios."""
        return self._entries

    @property
    def size(self):
        """The number of the entries."""
        return len(self._entries)

    @property
    def order(self):
        """The least index of an entry other than 0, or None."""
        places = [place for place, entry in enumerate(self._entries) if entry.top]
        return places[0] if places else None

    def at(self, index):
        """The entry with an index."""
        check_bounded(index, 0, self.size - 1)
        return self._entries[index]

    def whole(self):
        """The tuple of the entries as integers."""
        if any([entry.bottom > 1 for entry in self._entries]):
            raise InvalidOperation("all entries are integers")
        return tuple([entry.top for entry in self._entries])

    def plus(self, other):
        """The sum with another row."""
        _check_row(other)
        return Row(tuple([one.plus(two) for one, two in zip(self._entries, other.entries)]))

    def minus(self, other):
        """The difference to another row."""
        _check_row(other)
        return Row(tuple([one.minus(two) for one, two in zip(self._entries, other.entries)]))

    def multiplied(self, other):
        """The product with another row."""
        _check_row(other)
        one, first = whole_row(self._entries)
        two, second = whole_row(other.entries)
        size = min(len(one), len(two))
        product = [sum([x * y for x, y in zip(one, two[place::-1])]) for place in range(size)]
        return Row(divided_row(product, first * second))

    def scaled(self, factor):
        """The row with each entry multiplied by a ratio or an integer."""
        if not _is_entry(factor):
            raise InvalidOperation("a row is multiplied by a ratio or an integer")
        return Row(tuple([entry.times(factor) for entry in self._entries]))

    def raised(self, many):
        """The power with an exponent."""
        check_bounded(many, -MAX_RAISED, MAX_RAISED)
        if many < 0 and self._entries[0].top == 0:
            raise InvalidOperation("the entry 0 of what is raised to an exponent below 0 is not 0")
        if many == 0:
            return Row((1,) + (0,) * (self.size - 1))
        if self.order is None:
            return self
        return Row(_raised(self._entries, self.order, many))

    def cut(self, size):
        """The row of the first entries, so many."""
        check_bounded(size, 1, self.size)
        return Row(self._entries[:size])

    def spread(self, times):
        """The row with a power of q in the place of q."""
        check_bounded(times, 1, MAX_ROW)
        entries = []
        for place in range(self.size):
            entries.append(self._entries[place // times] if place % times == 0 else 0)
        return Row(tuple(entries))

    def __len__(self):
        return len(self._entries)

    def __iter__(self):
        return iter(self._entries)

    def __eq__(self, other):
        return isinstance(other, Row) and self._entries == other.entries


# A row is, from its first entry other than 0 on, a power of q times some ratio times integers with a first one above 0
# and without a common divisor. Powers of these integers f come from m * f' * g = f * g' for the power g = f ** m: this
# tells each entry of g by those ahead of it.


def _raised(entries, order, many):
    """The entries of a power, other than the power 0, of a row whose first entry other than 0 has the index `order`."""
    tops, bottom = whole_row(entries)
    told = tops[order:]
    shared = 0
    for top in told:
        shared = gcd(shared, top)
    if told[0] < 0:
        shared = -shared
    told = [top // shared for top in told]
    up, down = _power_of(shared, many), _power_of(bottom, many)
    if many > 0:
        led = [exact_ratio(up * entry, down) for entry in _power_up(told, many)]
        return tuple(([Ratio(0)] * (order * many) + led)[:len(entries)])
    up = up * _power_of(told[0], many)
    led = []
    for entry in _power_down(told, many):
        led.append(exact_ratio(down * entry, up))
        up = up * told[0]
    return tuple(led)


def _power_of(number, many):
    """The power of an integer with an exponent of either sign, taken without it."""
    power = 1
    for _ in range(abs(many)):
        power = power * number
    return power


def _power_up(told, many):
    """The integers of a power with an exponent above 0."""
    steps = [(place, entry) for place, entry in enumerate(told) if place and entry]
    power = [_power_of(told[0], many)]
    for at in range(1, len(told)):
        power.append(_next_sum(steps, power, many, at) // (at * told[0]))
    return power


def _power_down(told, many):
    """The same for an exponent below 0: the integer of the index k is multiplied by the power k - m of the first one.
    """
    steps = [(place, entry) for place, entry in enumerate(told) if place and entry]
    power = [1]
    for at in range(1, len(told)):
        total = _next_sum(steps, power, many, at) if told[0] == 1 else _graded_sum(told, power, many, at)
        power.append(total // at)
    return power


def _next_sum(steps, power, many, at):
    return sum([((many + 1) * place - at) * entry * power[at - place] for place, entry in steps if place <= at])


def _graded_sum(told, power, many, at):
    """The sum with each integer ahead multiplied by the power of the first one that it is short of."""
    total = 0
    for place in range(at, 0, -1):
        total = total * told[0] + ((many + 1) * place - at) * told[place] * power[at - place]
    return total


def eta_row(size):
    """The row of this size of the product of all 1 - q ** m, m from 1 on."""
    _check_size(size)
    entries = [0] * size
    entries[0] = 1
    times = 1
    while times * (3 * times - 1) // 2 < size:
        for place in (times * (3 * times - 1) // 2, times * (3 * times + 1) // 2):
            if place < size:
                entries[place] = -1 if times % 2 else 1
        times = times + 1
    return Row(tuple(entries))


def eta_product(table, size):
    """The row of this size of the eta product with a table of exponents."""
    shift = _shift_of(table)
    _check_size(size)
    # The sum of the divisors of j in the recursion of the series of `eta_row`, with all powers of q and exponents.
    sums = _divisor_sums(size)
    steps = [0] * size
    for times, exponent in table.items():
        for place in range(times, size, times):
            steps[place] += times * exponent * sums[place // times]
    entries = [1]
    for place in range(1, size):
        total = sum([step * entry for step, entry in zip(steps[place:0:-1], entries)])
        entries.append(-total // place)
    return Row(tuple(([0] * shift + entries)[:size]))


def _shift_of(table):
    """The power of q ahead of an eta product; what is no table of one is refused."""
    if not isinstance(table, dict) or len(table) > _MAX_PARTS:
        raise InvalidTable("the table is a dict with at most ten exponents")
    total = 0
    for times, exponent in table.items():
        if not is_integer(times) or not 1 <= times <= MAX_ROW:
            raise InvalidTable("the powers of q are integers from 1 to 400")
        if not is_integer(exponent) or exponent == 0 or abs(exponent) > _MAX_EXPONENT:
            raise InvalidTable("the exponents are integers from -24 to 24 other than 0")
        total = total + times * exponent
    if total < 0 or total % 24:
        raise InvalidTable("the powers of q, times their exponents, add up to 24 times an integer of at least 0")
    return total // 24


def _divisor_sums(size):
    """The list of the sums of the divisors of all integers below a size; that of 0 is 0."""
    sums = [0] * size
    for divisor in range(1, size):
        for place in range(divisor, size, divisor):
            sums[place] += divisor
    return sums


def divisor_row(size):
    """The row of this size of the sums of divisors, with -1/24 at the index 0."""
    _check_size(size)
    return Row((Ratio(-1, 24),) + tuple(_divisor_sums(size)[1:]))


def led_row(level, row, number):
    """What T_n, n being the number, makes of a row at a level."""
    check_level(level)
    _check_row(row)
    check_bounded(number, 1, MAX_LED)
    entries, times = whole_row(row.entries)
    told = [divisor for divisor in divisors(number) if gcd(divisor, level) == 1]
    led = []
    for place in range((row.size - 1) // number + 1):
        parts = [d * entries[place * number // (d * d)] for d in told if place % d == 0]
        led.append(sum(parts))
    return Row(divided_row(led, times))
