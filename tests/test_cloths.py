"""Cloths and threads: points 1, 2 and 13."""

import unittest

from clothlayers.cloths import beneath, cloth_of, need_cloth, over, threads
from clothlayers.errors import BadCloth, BadThread
from samples import (
    BAD_CLOTHS, NO_NUMBERS, PLAIN, UNEVEN, all_cloths, check_own_list, check_refused, check_refuses_bad_cloths,
    no_threads, sized,
)

SIZES = [(1, 1), (1, 12), (12, 1), (12, 12), (2, 3), (5, 4), (7, 11)]


class NeedClothTest(unittest.TestCase):
    def test_each_size_is_told_again(self):
        for wefts, warps in SIZES:
            cloth = sized(wefts, warps)
            told = need_cloth(cloth)
            self.assertEqual(told, sized(wefts, warps))
            self.assertIs(type(told), list)
            self.assertIsNot(told, cloth)
            for row, old in zip(told, cloth):
                self.assertIs(type(row), list)
                self.assertIsNot(row, old)

    def test_both_signs(self):
        self.assertEqual(need_cloth([[0]]), [[0]])
        self.assertEqual(need_cloth([[1]]), [[1]])

    def test_rows_that_are_one_list_become_several(self):
        row = [1, 0]
        check_own_list(self, need_cloth, [row, row, row])

    def test_what_is_no_cloth_is_refused(self):
        for bad in BAD_CLOTHS:
            check_refused(self, BadCloth, need_cloth, bad)

    def test_nothing_changes(self):
        check_own_list(self, need_cloth, [row.copy() for row in UNEVEN])


class ThreadsTest(unittest.TestCase):
    def test_wefts_and_warps_are_counted(self):
        for wefts, warps in SIZES:
            self.assertEqual(threads(sized(wefts, warps)), wefts + warps)

    def test_what_is_no_cloth_is_refused(self):
        check_refuses_bad_cloths(self, threads)

    def test_nothing_changes(self):
        cloth = [row.copy() for row in UNEVEN]
        threads(cloth)
        self.assertEqual(cloth, UNEVEN)


class OverTest(unittest.TestCase):
    def test_each_crossing_of_one_cloth(self):
        # Wefts 0 and 1, warps 2, 3 and 4.
        wefts_over = [(0, 3), (0, 4), (1, 4)]
        warps_over = [(2, 0), (2, 1), (3, 1)]
        for one, other in wefts_over + warps_over:
            self.assertIs(over(PLAIN, one, other), True)
            self.assertIs(over(PLAIN, other, one), False)

    def test_each_sign_tells_what_lies_over(self):
        for cloth in [UNEVEN, sized(1, 12), sized(12, 1), sized(12, 12)]:
            for weft, row in enumerate(cloth):
                for at, sign in enumerate(row):
                    warp = len(cloth) + at
                    self.assertIs(over(cloth, warp, weft), sign == 1)
                    self.assertIs(over(cloth, weft, warp), sign == 0)

    def test_threads_that_do_not_cross_are_refused(self):
        wefts, warps = [0, 1, 2], [3, 4, 5, 6]
        for alike in (wefts, warps):
            for one in alike:
                for other in alike:
                    check_refused(self, BadThread, over, UNEVEN, one, other)

    def test_what_is_no_thread_is_refused_in_each_place(self):
        for bad in no_threads(PLAIN):
            for good in range(5):
                check_refused(self, BadThread, over, PLAIN, bad, good)
                check_refused(self, BadThread, over, PLAIN, good, bad)
            check_refused(self, BadThread, over, PLAIN, bad, bad)

    def test_what_is_no_cloth_is_refused_first(self):
        check_refuses_bad_cloths(self, over, 0, 1)
        check_refuses_bad_cloths(self, over, None, True)

    def test_nothing_changes(self):
        cloth = [row.copy() for row in UNEVEN]
        over(cloth, 0, 5)
        self.assertEqual(cloth, UNEVEN)


class BeneathTest(unittest.TestCase):
    def test_each_thread_of_one_cloth(self):
        self.assertEqual([beneath(PLAIN, thread) for thread in range(5)], [[3, 4], [4], [0, 1], [1], []])

    def test_a_weft_and_a_warp_over_none(self):
        self.assertEqual(beneath([[1, 1], [0, 1]], 0), [])
        self.assertEqual(beneath([[1, 0], [0, 0]], 3), [])

    def test_a_weft_and_a_warp_over_all(self):
        self.assertEqual(beneath([[0] * 12] * 12, 11), list(range(12, 24)))
        self.assertEqual(beneath([[1] * 12] * 12, 12), list(range(12)))

    def test_it_agrees_with_over(self):
        for cloth in all_cloths(2, 3):
            for thread in range(5):
                crossed = range(2, 5) if thread < 2 else range(2)
                self.assertEqual(beneath(cloth, thread), [at for at in crossed if over(cloth, thread, at)])

    def test_what_is_no_thread_is_refused(self):
        for cloth in (PLAIN, UNEVEN, [[1]]):
            for bad in no_threads(cloth):
                check_refused(self, BadThread, beneath, cloth, bad)

    def test_what_is_no_cloth_is_refused_first(self):
        check_refuses_bad_cloths(self, beneath, 0)
        check_refuses_bad_cloths(self, beneath, True)

    def test_nothing_changes(self):
        for thread in (0, 1, 2, 3, 4, 5):
            check_own_list(self, beneath, [row.copy() for row in UNEVEN], thread)


class ClothOfTest(unittest.TestCase):
    def test_all_threads(self):
        self.assertEqual(cloth_of(UNEVEN, list(range(7))), UNEVEN)
        self.assertEqual(cloth_of(sized(12, 12), list(range(24))), sized(12, 12))

    def test_some_threads(self):
        self.assertEqual(cloth_of(UNEVEN, [0, 2, 3, 6]), [[1, 1], [0, 0]])
        self.assertEqual(cloth_of(UNEVEN, [1, 3, 4, 5]), [[0, 1, 1]])
        self.assertEqual(cloth_of(UNEVEN, [0, 1, 2, 6]), [[1], [1], [0]])

    def test_one_weft_with_one_warp(self):
        for weft, row in enumerate(UNEVEN):
            for at, sign in enumerate(row):
                self.assertEqual(cloth_of(UNEVEN, [weft, 3 + at]), [[sign]])

    def test_wefts_alone_warps_alone_and_nothing_are_refused(self):
        for some in ([], [0], [0, 1], [0, 1, 2], [3], [3, 6], [3, 4, 5, 6]):
            check_refused(self, BadThread, cloth_of, UNEVEN, some)

    def test_threads_that_do_not_rise_are_refused(self):
        for some in ([0, 0, 3], [0, 3, 3], [3, 0], [1, 0, 3], [0, 4, 3], [0, 3, 1], [0, 3, 0, 3]):
            check_refused(self, BadThread, cloth_of, UNEVEN, some)

    def test_what_is_no_thread_is_refused_in_each_place(self):
        for bad in no_threads(UNEVEN):
            for some in ([bad], [bad, 3], [0, bad], [bad, 0, 3], [0, bad, 3], [0, 3, bad]):
                check_refused(self, BadThread, cloth_of, UNEVEN, some)

    def test_what_is_no_list_is_refused(self):
        for some in ((0, 3), (), None, "03", "", {0: 3}, {0, 3}, 0, 3, True, False, 1.5, b"", range(7), *NO_NUMBERS):
            check_refused(self, BadThread, cloth_of, UNEVEN, some)

    def test_what_is_no_cloth_is_refused_first(self):
        check_refuses_bad_cloths(self, cloth_of, [0, 1])
        check_refuses_bad_cloths(self, cloth_of, None)
        check_refuses_bad_cloths(self, cloth_of, [True, True])

    def test_nothing_changes(self):
        check_own_list(self, cloth_of, [row.copy() for row in UNEVEN], [0, 2, 3, 6])
        check_own_list(self, cloth_of, [row.copy() for row in UNEVEN], list(range(7)))


if __name__ == "__main__":
    unittest.main()
