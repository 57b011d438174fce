"""What several test files share: good and bad things to hand in, and checks of a call."""

import copy
from itertools import product

from clothlayers.errors import BadCloth, BadCount, BadLoom, BadText, BadThread, ClothError

REFUSALS = (BadCloth, BadThread, BadCount, BadLoom, BadText)


class Odd:
    """A thing that fails as soon as anybody compares, measures or tests it."""

    def fail(self, *told):
        raise RuntimeError("asked")

    __eq__ = __lt__ = __gt__ = __le__ = __ge__ = fail
    __len__ = __iter__ = __bool__ = __index__ = __getitem__ = __hash__ = fail


def loop():
    """A list that contains itself."""
    rows = []
    rows.append(rows)
    return rows


PLAIN = [[1, 0, 0], [1, 1, 0]]
# Neither turned over nor moved it is the same as before.
UNEVEN = [[1, 0, 0, 1], [0, 1, 1, 1], [0, 0, 1, 0]]

TABBY = [[1, 0], [0, 1]]
TWILL = [[1, 0, 0], [0, 1, 0], [0, 0, 1]]
# Wefts 0 and 2 with warps 4 and 6 make a tabby above, wefts 1 and 3 with warps 5 and 7 another one below.
DOUBLE = [[1, 0, 0, 0], [1, 1, 1, 0], [0, 0, 1, 0], [1, 0, 1, 1]]
# The tabby above has the later threads: wefts 2 and 3, warps 6 and 7.
LOWER_FIRST = [[1, 0, 1, 1], [0, 1, 1, 1], [0, 0, 1, 0], [0, 0, 0, 1]]
# Weft 1 above, the tabby of wefts 0 and 2 with warps 3 and 5 between, warp 4 below.
BETWEEN = [[1, 0, 0], [0, 0, 0], [0, 0, 1]]
# Each warp lies over all wefts from its own on: a chain, from the first warp down to the last weft.
STEPS = [[1 if weft >= warp else 0 for warp in range(12)] for weft in range(12)]
# A ring of twelve wefts and twelve warps: each weft lies over the next warp alone, so ways are long.
RING = [[0 if warp == (weft + 1) % 12 else 1 for warp in range(12)] for weft in range(12)]

NO_NUMBERS = [True, False, None, "1", "", b"1", 1.0, 0.0, float("nan"), 1j, [1], [], (1,), {}, {1}, Odd(), int]

BAD_CLOTHS = [
    [],
    [[1]] * 13,
    [[]],
    [[], []],
    [[0] * 13],
    [[0] * 12, [0] * 13],
    [[1, 0], [1]],
    [[1], [1, 0]],
    [[1, 0], []],
    [[1, 0], [0, 1], [1, 0, 1]],
    [[2]],
    [[-1]],
    [[0, 1], [1, 2]],
    [[10 ** 40]],
    [(1, 0)],
    [[1, 0], (0, 1)],
    [[1, 0], "01"],
    ["10"],
    [None],
    [[1], None],
    [1, 0],
    [[1], 1],
    [{0: 1}],
    [range(2)],
    [Odd()],
    [[1], Odd()],
    loop(),
    [[[1]]],
    None,
    0,
    1,
    True,
    False,
    1.5,
    "",
    "#.",
    "#.\n.#",
    b"#",
    (),
    ([1, 0], [0, 1]),
    ((1, 0), (0, 1)),
    {},
    {0: [1]},
    {1},
    range(1),
    Odd(),
    list,
] + [[[1, thing]] for thing in NO_NUMBERS] + [[[0], [thing]] for thing in NO_NUMBERS]


# The lists that stand in a loom in place of its threading, its ties or its treadling.
NO_LISTS = [[], (0,), (), None, "0", "", b"0", 0, 1, True, False, 1.5, {}, {0: 0}, {0}, range(1), Odd(), list]
BEYOND_SHAFTS = [12, 13, 10 ** 40, -1, -12, -10 ** 40]

LOOM = ([0, 2, 5, 0], [[0, 5], [], [2, 5, 11]], [0, 1, 2, 1, 0])


def with_part(loom, place, part):
    """The loom with another part in that place."""
    parts = list(loom)
    parts[place] = part
    return tuple(parts)


def bad_threadings():
    for bad in NO_LISTS + [[0] * 13, [[0]], [[0], [0]], loop()]:
        yield bad
    for bad in BEYOND_SHAFTS + NO_NUMBERS:
        yield from ([bad], [bad, 0], [0, bad, 1], [0, 1, bad], [0] * 11 + [bad])


def bad_treadlings():
    for bad in NO_LISTS + [[0] * 13, [[0]], [[0], [0]], loop()]:
        yield bad
    # LOOM has three treadles.
    for bad in [3, 4, 11, 12, 10 ** 40, -1, -3, -10 ** 40] + NO_NUMBERS:
        yield from ([bad], [bad, 0], [0, bad, 1], [0, 1, bad], [0] * 11 + [bad])


def bad_ties():
    # The empty list is a tie.
    for bad in NO_LISTS[1:] + [loop(), [[0]]]:
        yield bad
    yield from ([0, 0], [1, 0], [11, 0], [0, 2, 1], [0, 1, 1], [2, 0, 1], [0, 1, 0, 1], list(range(11, -1, -1)))
    yield from (list(range(13)), [0] * 13, [0] * 12)
    for bad in BEYOND_SHAFTS + NO_NUMBERS:
        yield from ([bad], [bad, 5], [0, bad], [0, bad, 11], [bad, bad])


def bad_looms():
    """Things that are no looms, each with one fault alone."""
    threading, ties, treadling = LOOM
    yield from (with_part(LOOM, 0, bad) for bad in bad_threadings())
    yield from (with_part(LOOM, 2, bad) for bad in bad_treadlings())
    yield from (with_part(LOOM, 1, bad) for bad in NO_LISTS + [[[]] * 13, [[0]] * 13, loop()])
    for tie in bad_ties():
        yield from (with_part(LOOM, 1, bad) for bad in ([tie, [], []], [[], tie, [0]], [[0], [1], tie]))
    yield from (list(LOOM), [], [[0], [[0]], [0]], (), (threading,), (threading, ties), (threading, treadling))
    yield from (LOOM + ([0],), LOOM + (None,), LOOM + ((),), (LOOM,), (threading, treadling, ties), LOOM[::-1])
    yield from (None, "", "012", b"012", 0, 3, True, False, 1.5, {}, {0: [0], 1: [[0]], 2: [0]}, range(3), Odd(), tuple)
    yield from ((ties, threading, treadling), ([], [], []), (None, None, None), (0, 0, 0), "abc", ("", "", ""))


BAD_LOOMS = list(bad_looms())


def sized(wefts, warps):
    """A cloth of this size."""
    return [[(weft * warp + weft) % 2 for warp in range(warps)] for weft in range(wefts)]


def no_threads(cloth):
    """Things that are no threads of this cloth."""
    many = len(cloth) + len(cloth[0])
    return [many, many + 1, 10 ** 30, -1, -many, -10 ** 30] + NO_NUMBERS


def all_cloths(wefts, warps):
    """Each cloth of this size."""
    for signs in product((0, 1), repeat=wefts * warps):
        yield [list(signs[weft * warps:(weft + 1) * warps]) for weft in range(wefts)]


def check_refused(case, refusal, call, *things):
    """The call is refused by just this class, and changes nothing."""
    before = repr(things)
    for caught in (refusal, ClothError, ValueError):
        with case.assertRaises(caught, msg=before) as held:
            call(*things)
        case.assertIs(type(held.exception), refusal, before)
        for other in REFUSALS:
            case.assertEqual(isinstance(held.exception, other), other is refusal, before)
    case.assertEqual(repr(things), before)


def check_refuses_bad_cloths(case, call, *things):
    """The call refuses each thing that is no cloth, whatever else is handed in."""
    for bad in BAD_CLOTHS:
        check_refused(case, BadCloth, call, bad, *things)


def lists_in(told):
    """All lists in what was told, itself among them."""
    found = [told] if isinstance(told, list) else []
    for part in told:
        if isinstance(part, (list, tuple)):
            found += lists_in(part)
    return found


def spoil(told):
    """Change each list in what was told."""
    for part in lists_in(told):
        part.append("spoilt")
        part[0] = "spoilt"


def check_own_list(case, call, *things):
    """What is told is new through and through, and what was handed in stays as it was."""
    before = repr(things)
    told = call(*things)
    wanted = copy.deepcopy(told)
    parts = lists_in(told)
    case.assertEqual(len({id(part) for part in parts}), len(parts), "one list stands in two places")
    case.assertEqual(repr(things), before)
    spoil(told)
    case.assertEqual(repr(things), before)
    again = call(*things)
    case.assertEqual(again, wanted)
    spoil(things[0])
    case.assertEqual(again, wanted, "what was told changes with what was handed in")
