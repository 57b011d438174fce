"""The whole program: point 3, and what points 8 to 14 promise together."""

import unittest
from itertools import product

from clothlayers.cloths import beneath, cloth_of, need_cloth, over, threads
from clothlayers.layers import hangs, layers, way
from clothlayers.looms import apart, loom_of, need_loom, woven
from clothlayers.notes import read, shown
from clothlayers.turning import least_repeat, moved, repeated, same, turned
from samples import (
    BETWEEN, DOUBLE, LOOM, LOWER_FIRST, PLAIN, RING, STEPS, TABBY, TWILL, UNEVEN, all_cloths, check_refuses_bad_cloths,
    sized, spoil,
)

SMALL = [cloth for size in [(1, 1), (1, 2), (2, 1), (2, 2), (2, 3), (3, 2)] for cloth in all_cloths(*size)]
CLOTHS = SMALL + [TABBY, TWILL, DOUBLE, LOWER_FIRST, BETWEEN, STEPS, RING, PLAIN, UNEVEN, sized(5, 4), sized(12, 12)]
MOVES = [(0, 0), (1, 0), (0, 1), (1, 2), (-1, 5), (10 ** 30, -10 ** 30)]


def repeats(cloth):
    """The cloth repeated once, twice and as often as can be, down and right."""
    downs, rights = ({1, 2, 12 // many} for many in (len(cloth), len(cloth[0])))
    return [
        repeated(cloth, down, right)
        for down, right in product(sorted(downs), sorted(rights))
        if down * len(cloth) <= 12 and right * len(cloth[0]) <= 12
    ]


def seen_otherwise(cloth):
    """The cloth turned over, moved and repeated, and some of these at once."""
    told = [turned(cloth), least_repeat(cloth)] + repeats(cloth)
    told += [moved(cloth, down, right) for down, right in MOVES]
    return told + [turned(moved(other, 1, 1)) for other in repeats(cloth)]


def loom_size(cloth):
    """How many shafts and treadles its loom has."""
    threading, ties, _ = loom_of(cloth)
    return len(set(threading)), len(ties)


def makes_a_cloth(cloth, some):
    return min(some) < len(cloth) <= max(some)


def renumbered(some, told):
    """Layers of some threads, told by the places of the threads among them."""
    return [[some.index(thread) for thread in layer] for layer in told]


class RepeatTest(unittest.TestCase):
    def test_turned_moved_or_repeated_it_hangs_together_as_before(self):
        for cloth in CLOTHS:
            for other in seen_otherwise(cloth):
                self.assertIs(hangs(other), hangs(cloth))

    def test_turned_moved_or_repeated_its_loom_is_as_large_as_before(self):
        for cloth in CLOTHS:
            for other in seen_otherwise(cloth):
                self.assertEqual(loom_size(other), loom_size(cloth))

    def test_both_kinds_of_cloths_are_among_them(self):
        self.assertEqual({hangs(cloth) for cloth in CLOTHS}, {True, False})
        self.assertGreater(len({loom_size(cloth) for cloth in CLOTHS}), 5)

    def test_threads_that_come_of_one_by_the_repeat_lie_alike(self):
        for cloth in CLOTHS:
            wefts, warps = len(cloth), len(cloth[0])
            for other in repeats(cloth):
                for weft in range(len(other)):
                    self.assertIs(apart(other, weft, weft % wefts), None)
                for warp in range(len(other[0])):
                    self.assertIs(apart(other, len(other) + warp, len(other) + warp % warps), None)

    def test_a_way_leads_between_threads_just_where_one_leads_between_their_repeats(self):
        for cloth in (DOUBLE, BETWEEN, PLAIN, UNEVEN, TWILL):
            wefts, warps = len(cloth), len(cloth[0])
            larger = repeated(cloth, 2, 2)

            def come_of(thread):
                return thread % wefts if thread < 2 * wefts else wefts + (thread - 2 * wefts) % warps

            for one, other in product(range(threads(larger)), repeat=2):
                if come_of(one) != come_of(other):
                    led = way(larger, one, other)
                    self.assertEqual(led is None, way(cloth, come_of(one), come_of(other)) is None)

    def test_turned_over_its_layers_are_the_same_from_below(self):
        for cloth in CLOTHS:
            behind = list(range(len(cloth))) + list(reversed(range(len(cloth), threads(cloth))))
            told = [sorted(behind[thread] for thread in layer) for layer in layers(turned(cloth))]
            self.assertEqual(sorted(told), sorted(layers(cloth)))
            for one, other in product(range(threads(cloth)), repeat=2):
                back = way(turned(cloth), behind[other], behind[one])
                self.assertEqual(back is None, way(cloth, one, other) is None)


class LayersAloneTest(unittest.TestCase):
    def test_the_cloth_of_a_layer_hangs_together_by_itself(self):
        alone = [cloth_of(cloth, layer) for cloth in CLOTHS for layer in layers(cloth) if makes_a_cloth(cloth, layer)]
        self.assertGreater(len(alone), 10)
        for cloth in alone:
            self.assertIs(hangs(cloth), True)
            self.assertEqual(layers(cloth), [list(range(threads(cloth)))])

    def test_a_layer_that_makes_no_cloth_is_one_thread(self):
        for cloth in CLOTHS:
            for layer in layers(cloth):
                if not makes_a_cloth(cloth, layer):
                    self.assertEqual(len(layer), 1)

    def test_the_first_so_many_layers_and_all_others(self):
        tried = 0
        for cloth in CLOTHS:
            told = layers(cloth)
            for many in range(len(told) + 1):
                for part in (told[:many], told[many:]):
                    some = sorted(sum(part, []))
                    if some and makes_a_cloth(cloth, some):
                        self.assertEqual(layers(cloth_of(cloth, some)), renumbered(some, part))
                        tried += 1
        self.assertGreater(tried, 100)

    def test_of_two_tabbies_each(self):
        self.assertEqual([cloth_of(DOUBLE, layer) for layer in layers(DOUBLE)], [TABBY, TABBY])
        self.assertEqual([cloth_of(LOWER_FIRST, layer) for layer in layers(LOWER_FIRST)], [TABBY, TABBY])
        self.assertEqual(cloth_of(BETWEEN, layers(BETWEEN)[1]), TABBY)


class TogetherTest(unittest.TestCase):
    def test_shown_read_woven_and_told_again(self):
        for cloth in CLOTHS:
            again = woven(need_loom(loom_of(read(shown(need_cloth(cloth))))))
            self.assertEqual(again, cloth)
            self.assertIs(same(again, cloth), True)

    def test_each_function_that_takes_a_cloth_refuses_first_what_is_none(self):
        for call in (threads, turned, least_repeat, loom_of, hangs, layers, shown, need_cloth):
            check_refuses_bad_cloths(self, call)
        for call in (beneath, cloth_of, same):
            check_refuses_bad_cloths(self, call, None)
        for call in (over, moved, repeated, apart, way):
            for wrong in ((None, None), (True, False), (-1, 99), ("", []), (0, None), (None, 0)):
                check_refuses_bad_cloths(self, call, *wrong)

    def test_what_was_told_and_changed_changes_nothing_that_is_told_later(self):
        calls = [
            lambda: need_cloth(DOUBLE), lambda: beneath(DOUBLE, 1), lambda: cloth_of(DOUBLE, [0, 2, 4, 6]),
            lambda: turned(DOUBLE), lambda: moved(DOUBLE, 1, 1), lambda: repeated(DOUBLE, 2, 3),
            lambda: least_repeat(DOUBLE), lambda: need_loom(LOOM), lambda: woven(LOOM), lambda: loom_of(DOUBLE),
            lambda: way(DOUBLE, 0, 7), lambda: way(DOUBLE, 3, 3), lambda: layers(DOUBLE), lambda: read(shown(DOUBLE)),
        ]
        wanted = [repr(call()) for call in calls]
        for call in calls:
            spoil(call())
            self.assertEqual([repr(again()) for again in calls], wanted)


if __name__ == "__main__":
    unittest.main()
