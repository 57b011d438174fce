"""What several test files share: good and bad things to hand in, and checks of a call."""

import copy
from itertools import product

from clothlayers.errors import BadCloth, BadCount, BadLoom, BadText, BadThread, ClothError

REFUSALS = (BadCloth, BadThread, BadCount, BadLoom, BadText)


class Odd:
    """A thing that fails as soon as anybody compares, measures or tests it."""

    def fail(self, *told):
        raise RuntimeError("asked")

    __eq__ = __lt__ = __gt__ = __le__ = __ge__ = fail
    __len__ = __iter__ = __bool__ = __index__ = __getitem__ = __hash__ = fail


def loop():
    """A list that contains itself."""
    rows = []
    rows.append(rows)
    return rows


PLAIN = [[1, 0, 0], [1, 1, 0]]
# Neither turned over nor moved it is the same as before.
UNEVEN = [[1, 0, 0, 1], [0, 1, 1, 1], [0, 0, 1, 0]]

NO_NUMBERS = [True, False, None, "1", "", b"1", 1.0, 0.0, float("nan"), 1j, [1], [], (1,), {}, {1}, Odd(), int]

BAD_CLOTHS = [
    [],
    [[1]] * 13,
    [[]],
    [[], []],
    [[0] * 13],
    [[0] * 12, [0] * 13],
    [[1, 0], [1]],
    [[1], [1, 0]],
    [[1, 0], []],
    [[1, 0], [0, 1], [1, 0, 1]],
    [[2]],
    [[-1]],
    [[0, 1], [1, 2]],
    [[10 ** 40]],
    [(1, 0)],
    [[1, 0], (0, 1)],
    [[1, 0], "01"],
    ["10"],
    [None],
    [[1], None],
    [1, 0],
    [[1], 1],
    [{0: 1}],
    [range(2)],
    [Odd()],
    [[1], Odd()],
    loop(),
    [[[1]]],
    None,
    0,
    1,
    True,
    False,
    1.5,
    "",
    "#.",
    "#.\n.#",
    b"#",
    (),
    ([1, 0], [0, 1]),
    ((1, 0), (0, 1)),
    {},
    {0: [1]},
    {1},
    range(1),
    Odd(),
    list,
] + [[[1, thing]] for thing in NO_NUMBERS] + [[[0], [thing]] for thing in NO_NUMBERS]


def all_cloths(wefts, warps):
    """Each cloth of this size."""
    for signs in product((0, 1), repeat=wefts * warps):
        yield [list(signs[weft * warps:(weft + 1) * warps]) for weft in range(wefts)]


def check_refused(case, refusal, call, *things):
    """The call is refused by just this class, and changes nothing."""
    before = repr(things)
    for caught in (refusal, ClothError, ValueError):
        with case.assertRaises(caught, msg=before) as held:
            call(*things)
        case.assertIs(type(held.exception), refusal, before)
        for other in REFUSALS:
            case.assertEqual(isinstance(held.exception, other), other is refusal, before)
    case.assertEqual(repr(things), before)


def check_refuses_bad_cloths(case, call, *things):
    """The call refuses each thing that is no cloth, whatever else is handed in."""
    for bad in BAD_CLOTHS:
        check_refused(case, BadCloth, call, bad, *things)


def spoil(told):
    """Change a list that was told, and each row in it."""
    for row in told:
        if isinstance(row, list):
            row.append("spoilt")
            row[0] = "spoilt"
    told.append("spoilt")
    told[0] = "spoilt"


def check_own_list(case, call, *things):
    """What is told is new through and through, and what was handed in stays as it was."""
    before = repr(things)
    told = call(*things)
    wanted = copy.deepcopy(told)
    rows = [row for row in told if isinstance(row, list)]
    case.assertEqual(len({id(row) for row in rows}), len(rows), "one row stands in two places")
    case.assertEqual(repr(things), before)
    spoil(told)
    case.assertEqual(repr(things), before)
    again = call(*things)
    case.assertEqual(again, wanted)
    spoil(things[0])
    case.assertEqual(again, wanted, "what was told changes with what was handed in")
