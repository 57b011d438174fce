"""Cloths and their threads.

A cloth is a list of rows of 0 and 1. A row is a weft, a place in it a warp;
1 stands where the warp lies over the weft. Threads are numbered from 0 on:
first the wefts, then the warps.
"""

from clothlayers.errors import BadCloth, BadThread

MOST = 12


def is_whole(thing):
    """Whether it is a whole number."""
    # isinstance would let True and False through.
    return type(thing) is int


def is_filled_list(thing):
    """Whether it is a list of 1 to 12 things."""
    return type(thing) is list and 1 <= len(thing) <= MOST


def is_row(thing):
    """Whether it is a list of 1 to 12 signs."""
    return is_filled_list(thing) and all(is_whole(sign) and 0 <= sign <= 1 for sign in thing)


def need_cloth(thing):
    """The cloth, a new one; BadCloth for what is none."""
    if not is_filled_list(thing):
        raise BadCloth("a cloth is a list of 1 to 12 rows")
    for row in thing:
        if not is_row(row):
            raise BadCloth("a row is a list of 1 to 12 numbers, each 0 or 1")
        if len(row) != len(thing[0]):
            raise BadCloth("the rows of a cloth are of one length")
    return [list(row) for row in thing]


def threads(cloth):
    """How many threads the cloth has."""
    rows = need_cloth(cloth)
    return count_threads(rows)


def count_threads(rows):
    """How many threads the rows of a cloth have."""
    return len(rows) + len(rows[0])


def columns_of(rows):
    """The signs of each warp, from the first weft to the last."""
    return [[row[at] for row in rows] for at in range(len(rows[0]))]


def need_thread(rows, thing):
    """BadThread for what is no thread of these rows."""
    if not is_whole(thing) or not 0 <= thing < count_threads(rows):
        raise BadThread("no thread of this cloth")


def is_weft(rows, thread):
    """Whether the thread is a weft; else it is a warp."""
    return thread < len(rows)


def crossing(rows, thread):
    """A list of all threads that the thread crosses, rising."""
    wefts = len(rows)
    if is_weft(rows, thread):
        return list(range(wefts, count_threads(rows)))
    return list(range(wefts))


def lies_over(rows, one, other):
    """Whether the one lies over the other, of two threads that cross."""
    if is_weft(rows, one):
        return rows[one][other - len(rows)] == 0
    return rows[other][one - len(rows)] == 1


def over(cloth, one, other):
    """Whether the one lies over the other; BadThread where they are no threads or don't cross."""
    rows = need_cloth(cloth)
    need_thread(rows, one)
    need_thread(rows, other)
    if is_weft(rows, one) == is_weft(rows, other):
        raise BadThread("these two threads don't cross")
    return lies_over(rows, one, other)


def lower_threads(rows, thread):
    """A list of all threads over which the thread lies, rising."""
    return [other for other in crossing(rows, thread) if lies_over(rows, thread, other)]


def beneath(cloth, thread):
    """A list of all threads over which the thread lies somewhere, rising; BadThread where it is none."""
    rows = need_cloth(cloth)
    need_thread(rows, thread)
    return lower_threads(rows, thread)


def rises(numbers):
    """Whether each number is greater than the one before it."""
    return all(numbers[at - 1] < numbers[at] for at in range(1, len(numbers)))


def need_rising_threads(rows, thing):
    """BadThread for what is no rising list of threads of these rows."""
    if type(thing) is not list:
        raise BadThread("some threads are told by a list")
    for thread in thing:
        need_thread(rows, thread)
    if not rises(thing):
        raise BadThread("the threads of a list rise, each told once")


def cloth_of(cloth, some):
    """The cloth that has just these threads; BadThread where they make none."""
    rows = need_cloth(cloth)
    need_rising_threads(rows, some)
    wefts = [thread for thread in some if is_weft(rows, thread)]
    warps = [thread - len(rows) for thread in some if not is_weft(rows, thread)]
    if not wefts or not warps:
        raise BadThread("a cloth has at least one weft and one warp")
    return [[rows[weft][warp] for warp in warps] for weft in wefts]
