"""Cloths turned over, moved and repeated, and their least repeats."""

from clothlayers.cloths import MOST, columns_of, is_whole, need_cloth
from clothlayers.errors import BadCount


def turned(cloth):
    """The cloth seen from behind: the last warp first, over and under swapped."""
    rows = need_cloth(cloth)
    return [[1 - sign for sign in reversed(row)] for row in rows]


def moved(cloth, down, right):
    """The cloth begun so many wefts further down and so many warps further right."""
    rows = need_cloth(cloth)
    if not is_whole(down) or not is_whole(right):
        raise BadCount("a cloth is moved by whole numbers")
    from_row = down % len(rows)
    from_sign = right % len(rows[0])
    begun = rows[from_row:] + rows[:from_row]
    return [row[from_sign:] + row[:from_sign] for row in begun]


def need_times(thing, many):
    """BadCount where so many threads can't be repeated so many times."""
    if not is_whole(thing) or thing < 1:
        raise BadCount("a cloth is repeated by whole numbers from 1 on")
    if thing * many > MOST:
        raise BadCount("a cloth has at most twelve wefts and twelve warps")


def repeated(cloth, down, right):
    """The cloth with so many times its wefts and so many times its warps."""
    rows = need_cloth(cloth)
    need_times(down, len(rows))
    need_times(right, len(rows[0]))
    # Each row is built anew, lest a change in one of them show in its repeats.
    return [row * right for _ in range(down) for row in rows]


def least_period(lines):
    """After how many lines, the fewest, the lines come again without end."""
    many = len(lines)
    for period in range(1, many):
        # Only a divisor can be the fewest: the lines come again after all of them, too.
        if many % period == 0 and lines[:period] * (many // period) == lines:
            return period
    return many


def least_repeat(cloth):
    """The cloth that is the same without end and has the fewest wefts and warps."""
    rows = need_cloth(cloth)
    wefts = least_period(rows)
    warps = least_period(columns_of(rows))
    return [row[:warps] for row in rows[:wefts]]


def same(cloth, other):
    """Whether the two cloths are the same without end, both begun at their first threads."""
    # Two cloths without end are the same just where their one least repeat is.
    return least_repeat(cloth) == least_repeat(other)
