"""Turned, moved, doubled: points 1 and 4 to 7."""

import unittest

from clothlayers.errors import BadCloth, BadCount
from clothlayers.turning import least_repeat, moved, repeated, same, turned
from samples import (
    BAD_CLOTHS, NO_NUMBERS, PLAIN, UNEVEN, all_cloths, check_own_list, check_refused, check_refuses_bad_cloths,
)

GREAT = 10 ** 40
SIZES = [(1, 1), (1, 4), (4, 1), (2, 2), (2, 3), (3, 2), (2, 4)]


def small_cloths():
    return [cloth for wefts, warps in SIZES for cloth in all_cloths(wefts, warps)]


def sign_at(cloth, weft, warp):
    """The sign of the endless cloth."""
    return cloth[weft % len(cloth)][warp % len(cloth[0])]


def alike_without_end(cloth, other):
    """Whether the signs are the same as far as both repeats come again together."""
    return all(
        sign_at(cloth, weft, warp) == sign_at(other, weft, warp)
        for weft in range(len(cloth) * len(other))
        for warp in range(len(cloth[0]) * len(other[0]))
    )


def all_windows(cloth):
    """Each cloth that is cut from the first threads of this one and is the same without end."""
    sizes = [(wefts, warps) for wefts in range(1, len(cloth) + 1) for warps in range(1, len(cloth[0]) + 1)]
    windows = [[row[:warps] for row in cloth[:wefts]] for wefts, warps in sizes]
    return [window for window in windows if alike_without_end(window, cloth)]


class TurnedTest(unittest.TestCase):
    def test_the_last_warp_comes_first_and_signs_are_swapped(self):
        self.assertEqual(turned([[1]]), [[0]])
        self.assertEqual(turned(PLAIN), [[1, 1, 0], [1, 0, 0]])
        self.assertEqual(turned(UNEVEN), [[0, 1, 1, 0], [0, 0, 0, 1], [1, 0, 1, 1]])

    def test_turned_twice_it_is_as_it_was(self):
        for cloth in [PLAIN, UNEVEN] + small_cloths():
            self.assertEqual(turned(turned(cloth)), cloth)

    def test_the_largest(self):
        self.assertEqual(turned([[1] + [0] * 11] * 12), [[1] * 11 + [0]] * 12)

    def test_what_is_no_cloth_is_refused(self):
        check_refuses_bad_cloths(self, turned)

    def test_nothing_changes(self):
        check_own_list(self, turned, [row.copy() for row in UNEVEN])


class MovedTest(unittest.TestCase):
    def test_by_nought_it_is_as_it_was(self):
        self.assertEqual(moved(UNEVEN, 0, 0), UNEVEN)

    def test_by_small_numbers(self):
        self.assertEqual(moved(UNEVEN, 1, 0), [[0, 1, 1, 1], [0, 0, 1, 0], [1, 0, 0, 1]])
        self.assertEqual(moved(UNEVEN, 0, 1), [[0, 0, 1, 1], [1, 1, 1, 0], [0, 1, 0, 0]])
        self.assertEqual(moved(UNEVEN, 2, 3), [[0, 0, 0, 1], [1, 1, 0, 0], [1, 0, 1, 1]])

    def test_below_nought(self):
        self.assertEqual(moved(UNEVEN, -1, 0), [[0, 0, 1, 0], [1, 0, 0, 1], [0, 1, 1, 1]])
        self.assertEqual(moved(UNEVEN, 0, -1), [[1, 1, 0, 0], [1, 0, 1, 1], [0, 0, 0, 1]])

    def test_each_sign_stands_where_it_must(self):
        for down in [*range(-7, 8), GREAT, -GREAT, GREAT + 1]:
            for right in [*range(-7, 8), GREAT, -GREAT, GREAT + 1]:
                told = moved(UNEVEN, down, right)
                wanted = [[sign_at(UNEVEN, k + down, j + right) for j in range(4)] for k in range(3)]
                self.assertEqual(told, wanted)

    def test_moved_back_it_is_as_it_was(self):
        for cloth in [PLAIN, UNEVEN] + small_cloths():
            for down, right in [(1, 0), (0, 1), (2, 3), (-5, 4), (GREAT, -GREAT)]:
                self.assertEqual(moved(moved(cloth, down, right), -down, -right), cloth)

    def test_what_is_no_whole_number_is_refused(self):
        for bad in NO_NUMBERS:
            check_refused(self, BadCount, moved, UNEVEN, bad, 0)
            check_refused(self, BadCount, moved, UNEVEN, 0, bad)
            check_refused(self, BadCount, moved, UNEVEN, bad, bad)

    def test_what_is_no_cloth_is_refused_first(self):
        check_refuses_bad_cloths(self, moved, 0, 0)
        check_refuses_bad_cloths(self, moved, True, None)

    def test_nothing_changes(self):
        for down, right in [(0, 0), (1, 0), (0, 1), (2, 3)]:
            check_own_list(self, moved, [row.copy() for row in UNEVEN], down, right)


class RepeatedTest(unittest.TestCase):
    def test_once_and_once(self):
        self.assertEqual(repeated(UNEVEN, 1, 1), UNEVEN)

    def test_down_right_and_both(self):
        self.assertEqual(repeated(PLAIN, 2, 1), [[1, 0, 0], [1, 1, 0], [1, 0, 0], [1, 1, 0]])
        self.assertEqual(repeated(PLAIN, 1, 2), [[1, 0, 0, 1, 0, 0], [1, 1, 0, 1, 1, 0]])
        self.assertEqual(repeated([[1, 0]], 3, 2), [[1, 0, 1, 0]] * 3)

    def test_up_to_twelve(self):
        for cloth in (PLAIN, UNEVEN, [[1]], [[0, 1]]):
            down, right = 12 // len(cloth), 12 // len(cloth[0])
            told = repeated(cloth, down, right)
            self.assertEqual(told, [[sign_at(cloth, k, j) for j in range(12)] for k in range(12)])

    def test_more_than_twelve_is_refused(self):
        for down, right in [(7, 1), (1, 5), (7, 5), (GREAT, 1), (1, GREAT)]:
            check_refused(self, BadCount, repeated, PLAIN, down, right)
        check_refused(self, BadCount, repeated, [[1]], 13, 1)
        check_refused(self, BadCount, repeated, [[1]], 1, 13)
        check_refused(self, BadCount, repeated, [[1] * 7], 1, 2)
        check_refused(self, BadCount, repeated, [[1]] * 7, 2, 1)

    def test_nought_and_below_are_refused(self):
        for bad in (0, -1, -12, -GREAT):
            check_refused(self, BadCount, repeated, PLAIN, bad, 1)
            check_refused(self, BadCount, repeated, PLAIN, 1, bad)
            check_refused(self, BadCount, repeated, PLAIN, bad, bad)

    def test_what_is_no_whole_number_is_refused(self):
        for bad in NO_NUMBERS:
            check_refused(self, BadCount, repeated, PLAIN, bad, 1)
            check_refused(self, BadCount, repeated, PLAIN, 1, bad)
            check_refused(self, BadCount, repeated, PLAIN, bad, bad)

    def test_what_is_no_cloth_is_refused_first(self):
        check_refuses_bad_cloths(self, repeated, 1, 1)
        check_refuses_bad_cloths(self, repeated, 0, True)

    def test_nothing_changes(self):
        for down, right in [(1, 1), (2, 1), (1, 2), (4, 3)]:
            check_own_list(self, repeated, [row.copy() for row in UNEVEN], down, right)


class LeastRepeatTest(unittest.TestCase):
    def test_a_cloth_that_is_not_repeated(self):
        for cloth in (PLAIN, UNEVEN, [[0]], [[1, 0]], [[1], [0]], [[1, 0, 1]], [[1, 1, 0, 1, 1]]):
            self.assertEqual(least_repeat(cloth), cloth)

    def test_repeated_down_right_and_both(self):
        for cloth in (PLAIN, UNEVEN, [[1]], [[0, 1]], [[1, 1, 0]]):
            for down in range(1, 12 // len(cloth) + 1):
                for right in range(1, 12 // len(cloth[0]) + 1):
                    self.assertEqual(least_repeat(repeated(cloth, down, right)), cloth)

    def test_wefts_that_come_again_beside_warps_that_do_not(self):
        self.assertEqual(least_repeat([[1, 0, 0]] * 5), [[1, 0, 0]])
        self.assertEqual(least_repeat([[1] * 5, [0] * 5, [0] * 5]), [[1], [0], [0]])

    def test_a_step_that_does_not_go_round_is_no_repeat(self):
        self.assertEqual(least_repeat([[1, 0, 1, 0, 1]]), [[1, 0, 1, 0, 1]])
        # Each weft alone is like the one before, but moved by one.
        self.assertEqual(least_repeat([[1, 0], [0, 1]]), [[1, 0], [0, 1]])

    def test_one_sign_changed(self):
        for at in range(6):
            for place in range(6):
                cloth = repeated([[1, 0, 0], [0, 1, 0], [0, 0, 1]], 2, 2)
                cloth[at][place] = 1 - cloth[at][place]
                self.assertEqual(least_repeat(cloth), cloth)

    def test_it_is_the_one_window_with_the_fewest(self):
        larger = [repeated(cloth, 2, 2) for cloth in all_cloths(2, 2)]
        for cloth in small_cloths() + larger + list(all_cloths(1, 6)) + list(all_cloths(6, 1)):
            told = least_repeat(cloth)
            windows = all_windows(cloth)
            self.assertIn(told, windows)
            self.assertEqual(len(told), min(len(window) for window in windows))
            self.assertEqual(len(told[0]), min(len(window[0]) for window in windows))

    def test_what_is_no_cloth_is_refused(self):
        check_refuses_bad_cloths(self, least_repeat)

    def test_nothing_changes(self):
        check_own_list(self, least_repeat, [row.copy() for row in UNEVEN])
        check_own_list(self, least_repeat, repeated(UNEVEN, 3, 2))


class SameTest(unittest.TestCase):
    def test_a_cloth_and_its_repeats(self):
        for down, right in [(1, 1), (2, 1), (1, 2), (6, 4)]:
            self.assertIs(same(PLAIN, repeated(PLAIN, down, right)), True)
            self.assertIs(same(repeated(PLAIN, down, right), PLAIN), True)

    def test_other_sizes_that_are_the_same(self):
        self.assertIs(same(repeated(PLAIN, 3, 2), repeated(PLAIN, 2, 3)), True)
        self.assertIs(same([[1] * 5] * 7, [[1] * 12] * 11), True)
        self.assertIs(same([[1, 0, 1, 0]], [[1, 0]] * 3), True)

    def test_cloths_that_differ(self):
        self.assertIs(same(PLAIN, UNEVEN), False)
        self.assertIs(same([[1]], [[0]]), False)
        self.assertIs(same([[1, 0]], [[1], [0]]), False)
        self.assertIs(same([[1, 0, 1]], [[1, 0]]), False)

    def test_begun_elsewhere_or_turned_over_is_another(self):
        self.assertIs(same([[1, 0]], [[0, 1]]), False)
        self.assertIs(same(PLAIN, moved(PLAIN, 1, 0)), False)
        self.assertIs(same(UNEVEN, turned(UNEVEN)), False)

    def test_one_sign_changed(self):
        cloth = repeated(PLAIN, 3, 2)
        cloth[5][4] = 1 - cloth[5][4]
        self.assertIs(same(PLAIN, cloth), False)

    def test_it_is_so_sign_for_sign_without_end(self):
        cloths = [cloth for size in [(1, 1), (1, 2), (2, 1), (2, 2), (1, 4), (3, 1)] for cloth in all_cloths(*size)]
        for cloth in cloths:
            for other in cloths:
                self.assertIs(same(cloth, other), alike_without_end(cloth, other))

    def test_what_is_no_cloth_is_refused_in_each_place(self):
        for bad in BAD_CLOTHS:
            check_refused(self, BadCloth, same, bad, PLAIN)
            check_refused(self, BadCloth, same, PLAIN, bad)
            check_refused(self, BadCloth, same, bad, bad)

    def test_nothing_changes(self):
        cloth, other = [row.copy() for row in UNEVEN], repeated(UNEVEN, 2, 2)
        same(cloth, other)
        self.assertEqual(cloth, UNEVEN)
        self.assertEqual(other, repeated(UNEVEN, 2, 2))


if __name__ == "__main__":
    unittest.main()
