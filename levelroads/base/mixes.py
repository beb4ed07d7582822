"""Mixes of the rows of an echelon, told by the first ratios of these rows."""

from math import lcm


def lead_places(rows):
    """For each row of an echelon the place of its first 1.

    This 1 is alone in its column: so a mix has its multiple of the row there.
    """
    return [[place for place, entry in enumerate(row) if entry.top][0] for row in rows]


def is_mix(rows, row):
    """Whether a row of ratios is a mix of the rows of an echelon, which are as long as it."""
    leads, whole, many = whole_echelon(rows)
    entries = _whole_entries(row, common_bottom((row,)))
    mixed = [0] * len(entries)
    for lead, one in zip(leads, whole):
        mixed = [entry + entries[lead] * part for entry, part in zip(mixed, one)]
    return mixed == [many * entry for entry in entries]


def whole_echelon(rows):
    """The places of the first 1 of each row of an echelon, its rows as integers, and the integer that divides them."""
    times = common_bottom(rows)
    return lead_places(rows), [_whole_entries(row, times) for row in rows], times


def common_bottom(rows):
    """The least integer above 0 by which all ratios of some rows become integers."""
    times = 1
    for row in rows:
        for entry in row:
            times = lcm(times, entry.bottom)
    return times


def _whole_entries(row, times):
    return [entry.top * (times // entry.bottom) for entry in row]
