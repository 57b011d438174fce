"""Looms: points 1, 8 and 9."""

import unittest
from itertools import product

from clothlayers.cloths import over, threads
from clothlayers.errors import BadLoom, BadThread
from clothlayers.looms import apart, loom_of, need_loom, woven
from samples import (
    BAD_LOOMS, LOOM, PLAIN, UNEVEN, all_cloths, check_own_list, check_refused, check_refuses_bad_cloths, no_threads,
    sized,
)

ALL_SHAFTS = list(range(12))
LOOMS = [
    LOOM,
    ([0], [[]], [0]),
    ([0], [[0]], [0]),
    ([11], [[11]], [0]),
    # The most of everything.
    (ALL_SHAFTS, [ALL_SHAFTS[at:] for at in range(12)], ALL_SHAFTS[::-1]),
    ([11] * 12, [[]] * 12, [11] * 12),
    ([0] * 12, [[0]], [0]),
    ([0], [[0]], [0] * 12),
    # Shafts on which no warp is threaded, and treadles that are never trodden.
    ([3, 3], [[0, 1, 2], [3], [4, 11], []], [1, 1, 0]),
    ([7, 2, 7, 11, 2], [[0, 2], [7, 11], [2], [1, 3, 4]], [2, 0, 0]),
]

# Threads that are all alike, all unlike, and some alike.
ALIKE = [[1] * 5] * 4
UNLIKE = [[1 if warp == weft else 0 for warp in range(5)] for weft in range(5)]
SOME_ALIKE = [
    [1, 0, 1, 0, 0, 1],
    [0, 0, 0, 1, 0, 0],
    [1, 0, 1, 0, 0, 1],
    [1, 1, 1, 0, 1, 1],
    [0, 0, 0, 1, 0, 0],
]
CLOTHS = [ALIKE, UNLIKE, SOME_ALIKE, PLAIN, UNEVEN, [[0]], [[1]]] + [
    sized(*size) for size in [(1, 12), (12, 1), (12, 12), (5, 4), (7, 11)]
]


def own(loom):
    """A loom of lists of its own."""
    threading, ties, treadling = loom
    return list(threading), [list(tie) for tie in ties], list(treadling)


def columns(cloth):
    return [list(signs) for signs in zip(*cloth)]


class NeedLoomTest(unittest.TestCase):
    def test_each_size_is_told_again(self):
        for loom in LOOMS:
            before = repr(loom)
            told = need_loom(loom)
            self.assertEqual(told, own(loom))
            self.assertIs(type(told), tuple)
            for part, old in zip(told, loom):
                self.assertIs(type(part), list)
                self.assertIsNot(part, old)
            for tie, old in zip(told[1], loom[1]):
                self.assertIs(type(tie), list)
                self.assertIsNot(tie, old)
            self.assertEqual(repr(loom), before)

    def test_from_one_to_twelve_of_each(self):
        for warps, treadles, wefts in product((1, 2, 7, 11, 12), repeat=3):
            ties = [[0, 11][:treadles]] * treadles
            loom = ([warps - 1] * warps, ties, [treadles - 1] * wefts)
            self.assertEqual(need_loom(loom), loom)

    def test_each_tie_of_a_few_shafts(self):
        for members in product((0, 1), repeat=5):
            tie = [shaft for shaft, member in zip((0, 1, 4, 10, 11), members) if member]
            self.assertEqual(need_loom(([0], [tie], [0])), ([0], [tie], [0]))

    def test_what_is_no_loom_is_refused(self):
        for bad in BAD_LOOMS:
            check_refused(self, BadLoom, need_loom, bad)

    def test_a_treadle_is_one_of_those_that_are_tied(self):
        for treadles in range(1, 12):
            self.assertEqual(need_loom(([0], [[]] * treadles, [treadles - 1]))[2], [treadles - 1])
            check_refused(self, BadLoom, need_loom, ([0], [[]] * treadles, [treadles]))

    def test_nothing_changes(self):
        for loom in LOOMS:
            check_own_list(self, need_loom, own(loom))

    def test_parts_that_are_one_list_become_several(self):
        tie = [0]
        check_own_list(self, need_loom, (tie, [tie, tie], tie))


class WovenTest(unittest.TestCase):
    def test_a_plain_and_a_twill_weave(self):
        self.assertEqual(woven(([0, 1], [[0], [1]], [0, 1])), [[1, 0], [0, 1]])
        self.assertEqual(woven(([0, 1, 2], [[0, 1], [1, 2], [0, 2]], [0, 1, 2])), [[1, 1, 0], [0, 1, 1], [1, 0, 1]])

    def test_shafts_and_treadles_that_come_again(self):
        self.assertEqual(
            woven(LOOM),
            [[1, 0, 1, 1], [0, 0, 0, 0], [0, 1, 1, 0], [0, 0, 0, 0], [1, 0, 1, 1]],
        )

    def test_empty_ties_and_full_ones(self):
        self.assertEqual(woven(([4, 9], [[]], [0])), [[0, 0]])
        self.assertEqual(woven(([4, 9], [ALL_SHAFTS], [0, 0])), [[1, 1], [1, 1]])

    def test_shafts_without_warps_and_treadles_never_trodden_do_no_harm(self):
        self.assertEqual(woven(([3, 3], [[0, 1, 2], [3], [4, 11], []], [1, 1, 0])), [[1, 1], [1, 1], [0, 0]])

    def test_one_stands_just_where_the_shaft_is_tied(self):
        for loom in LOOMS:
            threading, ties, treadling = loom
            told = woven(loom)
            self.assertEqual((len(told), {len(row) for row in told}), (len(treadling), {len(threading)}))
            for weft, row in enumerate(told):
                for warp, sign in enumerate(row):
                    self.assertIs(type(sign), int)
                    self.assertEqual(sign, ties[treadling[weft]].count(threading[warp]))

    def test_what_is_no_loom_is_refused(self):
        for bad in BAD_LOOMS:
            check_refused(self, BadLoom, woven, bad)

    def test_nothing_changes(self):
        for loom in LOOMS:
            check_own_list(self, woven, own(loom))


class LoomOfTest(unittest.TestCase):
    def test_threads_all_alike(self):
        self.assertEqual(loom_of(ALIKE), ([0] * 5, [[0]], [0] * 4))
        self.assertEqual(loom_of([[0] * 3] * 2), ([0] * 3, [[]], [0] * 2))
        self.assertEqual(loom_of([[0] * 12] * 12), ([0] * 12, [[]], [0] * 12))

    def test_threads_all_unlike(self):
        self.assertEqual(loom_of(UNLIKE), ([0, 1, 2, 3, 4], [[0], [1], [2], [3], [4]], [0, 1, 2, 3, 4]))
        self.assertEqual(loom_of(UNEVEN), ([0, 1, 2, 3], [[0, 3], [1, 2, 3], [2]], [0, 1, 2]))
        cloth = [[1 if warp >= weft else 0 for warp in range(12)] for weft in range(12)]
        self.assertEqual(loom_of(cloth), (ALL_SHAFTS, [ALL_SHAFTS[at:] for at in range(12)], ALL_SHAFTS))

    def test_some_threads_alike(self):
        self.assertEqual(loom_of(SOME_ALIKE), ([0, 1, 0, 2, 1, 0], [[0], [2], [0, 1]], [0, 1, 0, 2, 1]))
        self.assertEqual(loom_of([[0, 1, 1, 0]]), ([0, 1, 1, 0], [[1]], [0]))
        self.assertEqual(loom_of([[1], [0], [1]]), ([0], [[0], []], [0, 1, 0]))

    def test_they_are_numbered_as_their_first_ones_come(self):
        for cloth in CLOTHS + list(all_cloths(3, 3)):
            threading, ties, treadling = loom_of(cloth)
            for numbers in (threading, treadling):
                firsts = [number for at, number in enumerate(numbers) if number not in numbers[:at]]
                self.assertEqual(firsts, list(range(len(firsts))))
            self.assertEqual(len(ties), max(treadling) + 1)

    def test_one_shaft_and_one_treadle_for_those_alike_and_no_more(self):
        for cloth in CLOTHS + list(all_cloths(3, 3)):
            threading, _, treadling = loom_of(cloth)
            for numbers, lines in ((threading, columns(cloth)), (treadling, cloth)):
                self.assertEqual(len(numbers), len(lines))
                for one, line in zip(numbers, lines):
                    for other, with_line in zip(numbers, lines):
                        self.assertEqual(one == other, line == with_line)

    def test_ties_rise_and_hold_the_shafts_of_the_loom_alone(self):
        for cloth in CLOTHS + list(all_cloths(3, 3)):
            threading, ties, _ = loom_of(cloth)
            for tie in ties:
                self.assertEqual(tie, [shaft for shaft in range(max(threading) + 1) if shaft in tie])

    def test_it_weaves_just_that_cloth(self):
        for cloth in CLOTHS + list(all_cloths(3, 3)) + list(all_cloths(2, 4)) + list(all_cloths(4, 2)):
            told = loom_of(cloth)
            self.assertIs(type(told), tuple)
            self.assertEqual(need_loom(told), told)
            self.assertEqual(woven(told), cloth)

    def test_no_loom_has_fewer_shafts_or_treadles(self):
        shafts, treadles = {}, {}
        ties_of_two = [[], [0], [1], [0, 1]]
        for threading in product((0, 1), repeat=2):
            for many in (1, 2):
                for ties in product(ties_of_two, repeat=many):
                    for treadling in product(range(many), repeat=3):
                        cloth = repr(woven((list(threading), list(ties), list(treadling))))
                        shafts[cloth] = min(shafts.get(cloth, 2), len(set(threading)))
                        treadles[cloth] = min(treadles.get(cloth, 2), many)
        for cloth in all_cloths(3, 2):
            threading, ties, _ = loom_of(cloth)
            # With three treadles a loom may weave cloths that those above don't.
            if repr(cloth) in shafts:
                self.assertEqual(len(set(threading)), shafts[repr(cloth)])
                self.assertEqual(len(ties), treadles[repr(cloth)])
            else:
                self.assertEqual(len(ties), 3)

    def test_what_is_no_cloth_is_refused(self):
        check_refuses_bad_cloths(self, loom_of)

    def test_nothing_changes(self):
        for cloth in CLOTHS:
            check_own_list(self, loom_of, [list(row) for row in cloth])


class ApartTest(unittest.TestCase):
    def test_wefts_and_warps_of_one_cloth(self):
        # Wefts 0, 1 and 2, warps 3 to 6: rows 1001, 0111 and 0010.
        self.assertEqual([apart(UNEVEN, 0, 1), apart(UNEVEN, 0, 2), apart(UNEVEN, 1, 2)], [3, 3, 4])
        self.assertEqual([apart(UNEVEN, 3, other) for other in (4, 5, 6)], [0, 0, 1])
        self.assertEqual([apart(UNEVEN, 4, 5), apart(UNEVEN, 4, 6), apart(UNEVEN, 5, 6)], [2, 0, 0])

    def test_threads_that_lie_alike(self):
        self.assertIs(apart(SOME_ALIKE, 0, 2), None)
        self.assertIs(apart(SOME_ALIKE, 4, 1), None)
        self.assertIs(apart(SOME_ALIKE, 5, 7), None)
        self.assertIs(apart(SOME_ALIKE, 10, 7), None)
        self.assertIs(apart([[0, 1]], 1, 2), 0)
        self.assertIs(apart([[0, 0]], 1, 2), None)

    def test_the_last_thread_alone_lies_otherwise(self):
        cloth = [[0] * 12 for _ in range(12)]
        cloth[11][11] = 1
        self.assertEqual(apart(cloth, 0, 11), 23)
        self.assertEqual(apart(cloth, 23, 12), 11)
        self.assertIs(apart(cloth, 0, 10), None)

    def test_all_wefts_and_all_warps_of_several_cloths(self):
        for cloth in CLOTHS + list(all_cloths(2, 3)):
            wefts, warps = range(len(cloth)), range(len(cloth), threads(cloth))
            for alike, across in ((wefts, warps), (warps, wefts)):
                for one, other in product(alike, repeat=2):
                    differ = [at for at in across if over(cloth, at, one) != over(cloth, at, other)]
                    self.assertEqual(apart(cloth, one, other), min(differ, default=None))

    def test_it_is_none_just_where_the_loom_takes_them_as_one(self):
        for cloth in CLOTHS:
            threading, _, treadling = loom_of(cloth)
            for first, numbers in ((0, treadling), (len(cloth), threading)):
                for one, other in product(range(len(numbers)), repeat=2):
                    alike = numbers[one] == numbers[other]
                    self.assertEqual(apart(cloth, first + one, first + other) is None, alike)

    def test_a_thread_and_itself(self):
        for cloth in CLOTHS:
            for thread in range(threads(cloth)):
                self.assertIs(apart(cloth, thread, thread), None)

    def test_a_weft_with_a_warp_is_refused_both_ways_round(self):
        for cloth in (PLAIN, UNEVEN, [[0]], [[1]], ALIKE):
            for weft in range(len(cloth)):
                for warp in range(len(cloth), threads(cloth)):
                    check_refused(self, BadThread, apart, cloth, weft, warp)
                    check_refused(self, BadThread, apart, cloth, warp, weft)

    def test_what_is_no_thread_is_refused_in_each_place(self):
        for cloth in (PLAIN, [[1]]):
            for bad in no_threads(cloth):
                for good in range(threads(cloth)):
                    check_refused(self, BadThread, apart, cloth, bad, good)
                    check_refused(self, BadThread, apart, cloth, good, bad)
                check_refused(self, BadThread, apart, cloth, bad, bad)

    def test_what_is_no_cloth_is_refused_first(self):
        check_refuses_bad_cloths(self, apart, 0, 0)
        check_refuses_bad_cloths(self, apart, None, True)

    def test_nothing_changes(self):
        cloth = [row.copy() for row in UNEVEN]
        apart(cloth, 0, 1)
        apart(cloth, 5, 6)
        self.assertEqual(cloth, UNEVEN)


if __name__ == "__main__":
    unittest.main()
