"""Looms, the cloths that they weave, and the loom of a cloth.

A loom is a tuple of three lists: the threading has for each warp its shaft,
the ties have for each treadle the shafts that it lifts, the treadling has for
each weft its treadle.
"""

from clothlayers.cloths import (
    MOST, columns_of, crossing, is_filled_list, is_weft, is_whole, lies_over, need_cloth, need_thread, rises,
)
from clothlayers.errors import BadLoom, BadThread


def are_below(numbers, limit):
    """Whether these are whole numbers from 0 on, all below the limit."""
    return all(is_whole(number) and 0 <= number < limit for number in numbers)


def is_tie(thing):
    """Whether it is a rising list of shafts, which may be empty."""
    # Only whole numbers can be asked whether they rise.
    return type(thing) is list and are_below(thing, MOST) and rises(thing)


def need_loom(thing):
    """The loom, of new lists; BadLoom for what is none."""
    if type(thing) is not tuple or len(thing) != 3:
        raise BadLoom("a loom is a tuple of threading, ties and treadling")
    threading, ties, treadling = thing
    if not is_filled_list(threading) or not are_below(threading, MOST):
        raise BadLoom("a threading is a list of 1 to 12 shafts, each from 0 to 11")
    if not is_filled_list(ties) or not all(is_tie(tie) for tie in ties):
        raise BadLoom("the ties are 1 to 12 rising lists of shafts, each from 0 to 11")
    if not is_filled_list(treadling) or not are_below(treadling, len(ties)):
        raise BadLoom("a treadling is a list of 1 to 12 treadles, each one that is tied")
    return list(threading), [list(tie) for tie in ties], list(treadling)


def woven(loom):
    """The cloth that the loom weaves."""
    threading, ties, treadling = need_loom(loom)
    return [[1 if shaft in ties[treadle] else 0 for shaft in threading] for treadle in treadling]


def kinds_of(lines):
    """The lines that are unlike, in the order in which their first ones come."""
    kinds = []
    for line in lines:
        if line not in kinds:
            kinds.append(line)
    return kinds


def numbered(lines):
    """For each line the number of its kind."""
    kinds = kinds_of(lines)
    return [kinds.index(line) for line in lines]


def lifted(threading, row):
    """The shafts of all warps that lie over the weft of this row, rising."""
    return sorted({shaft for shaft, sign in zip(threading, row) if sign == 1})


def loom_of(cloth):
    """The loom that weaves the cloth with the fewest shafts and the fewest treadles."""
    rows = need_cloth(cloth)
    threading = numbered(columns_of(rows))
    # Warps on one shaft lie alike at every weft, so a shaft is lifted for all of them or for none.
    ties = [lifted(threading, row) for row in kinds_of(rows)]
    return threading, ties, numbered(rows)


def apart(cloth, one, other):
    """The least thread that lies otherwise to the one than to the other; None where they lie alike."""
    rows = need_cloth(cloth)
    need_thread(rows, one)
    need_thread(rows, other)
    if is_weft(rows, one) != is_weft(rows, other):
        raise BadThread("these two threads cross")
    for thread in crossing(rows, one):
        if lies_over(rows, thread, one) != lies_over(rows, thread, other):
            return thread
    return None
