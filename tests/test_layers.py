"""Hanging together: points 1, 10, 11 and 12."""

import unittest
from itertools import combinations, permutations, product

from clothlayers.cloths import beneath, threads
from clothlayers.errors import BadThread
from clothlayers.layers import hangs, layers, way
from samples import (
    BETWEEN, DOUBLE, LOWER_FIRST, PLAIN, RING, STEPS, TABBY, TWILL, UNEVEN, all_cloths, check_own_list, check_refused,
    check_refuses_bad_cloths, no_threads, sized,
)

CLOTHS = [TABBY, TWILL, DOUBLE, LOWER_FIRST, BETWEEN, STEPS, RING, PLAIN, UNEVEN] + [
    sized(*size) for size in [(1, 1), (1, 12), (12, 1), (12, 12), (5, 4), (7, 11)]
]
SIZES = [(1, 1), (1, 2), (2, 1), (1, 3), (3, 1), (2, 2), (2, 3), (3, 2)]
SMALL = [cloth for size in SIZES for cloth in all_cloths(*size)]


def is_way(cloth, told):
    return all(below in beneath(cloth, above) for above, below in zip(told, told[1:]))


def way_by_trial(cloth, one, other):
    """The first way of all, the shortest ones tried first; each thread comes once, or a shorter way would do."""
    if one == other:
        return [one]
    between = [thread for thread in range(threads(cloth)) if thread not in (one, other)]
    for many in range(len(between) + 1):
        for middle in permutations(between, many):
            if is_way(cloth, [one, *middle, other]):
                return [one, *middle, other]
    return None


def steps_to(lower, last):
    """For each thread from which ways lead to the last one how many steps the shortest takes."""
    steps = {last: 0}
    # One step more each time, so what is told once stays.
    for many in range(1, len(lower)):
        near = [at for at, low in enumerate(lower) if at not in steps and any(steps.get(to) == many - 1 for to in low)]
        steps.update({at: many for at in near})
    return steps


def way_by_steps(lower, steps, one):
    """The way that goes each time to the least thread that is one step nearer."""
    if one not in steps:
        return None
    told = [one]
    for many in reversed(range(steps[one])):
        told.append(min(low for low in lower[told[-1]] if steps.get(low) == many))
    return told


def linked(cloth):
    """The pairs of threads of which ways lead from the one to the other."""
    many = range(threads(cloth))
    pairs = {(one, other) for one in many for other in beneath(cloth, one)} | {(one, one) for one in many}
    for by, one, other in product(many, repeat=3):
        if (one, by) in pairs and (by, other) in pairs:
            pairs.add((one, other))
    return pairs


def layers_by_trial(cloth):
    """Of all orders of the layers in which none lies under a later one the first by least threads."""
    pairs = linked(cloth)
    many = range(threads(cloth))
    groups = {tuple(other for other in many if {(one, other), (other, one)} <= pairs) for one in many}
    orders = [
        [list(group) for group in order]
        for order in permutations(sorted(groups))
        if not any((low[0], high[0]) in pairs for high, low in combinations(order, 2))
    ]
    return min(orders)


def can_be_lifted_off(cloth, some):
    """Whether none of these threads lies under another one."""
    others = [thread for thread in range(threads(cloth)) if thread not in some]
    return not any(below in some for other in others for below in beneath(cloth, other))


class WayTest(unittest.TestCase):
    def test_one_step(self):
        self.assertEqual(way([[0]], 0, 1), [0, 1])
        self.assertEqual(way([[1]], 1, 0), [1, 0])

    def test_there_is_none(self):
        self.assertIs(way([[0]], 1, 0), None)
        self.assertIs(way([[1]], 0, 1), None)
        self.assertIs(way([[0, 0]], 1, 2), None)
        self.assertIs(way(DOUBLE, 1, 0), None)
        self.assertIs(way(DOUBLE, 7, 4), None)

    def test_a_thread_to_itself(self):
        for cloth in CLOTHS + SMALL:
            for thread in range(threads(cloth)):
                self.assertEqual(way(cloth, thread, thread), [thread])

    def test_round_a_tabby(self):
        # Weft 0 over warp 3, warp 3 over weft 1, weft 1 over warp 2, warp 2 over weft 0.
        self.assertEqual([way(TABBY, 0, other) for other in range(4)], [[0], [0, 3, 1], [0, 3, 1, 2], [0, 3]])
        self.assertEqual([way(TABBY, 3, other) for other in range(4)], [[3, 1, 2, 0], [3, 1], [3, 1, 2], [3]])

    def test_of_ways_alike_in_length_the_first(self):
        # From weft 0 warps 4 and 5 lead to weft 1 (warp 4 alone) and to weft 2 (warp 5 alone).
        self.assertEqual(way(TWILL, 0, 1), [0, 4, 1])
        self.assertEqual(way(TWILL, 0, 2), [0, 5, 2])
        self.assertEqual(way(TWILL, 0, 3), [0, 4, 1, 3])
        # Over warps 2, 3 and 4 alike weft 0 lies, and each of them lies over weft 1.
        self.assertEqual(way([[0, 0, 0], [1, 1, 1]], 0, 1), [0, 2, 1])
        self.assertEqual(way([[1, 0, 0], [0, 1, 1]], 0, 2), [0, 3, 1, 2])

    def test_the_first_thread_after_the_first_decides(self):
        # Weft 0 lies over warps 5 and 6. To warp 7 warp 5 leads by weft 4, warp 6 by weft 1 already.
        cloth = [[0, 0, 1], [0, 1, 0], [1, 1, 1], [1, 1, 1], [1, 1, 0]]
        self.assertEqual(way(cloth, 0, 7), [0, 5, 4, 7])
        self.assertEqual(way(cloth, 6, 7), [6, 1, 7])

    def test_long_ways(self):
        # Weft k lies over warp k + 1 alone, and each warp over all wefts but one.
        self.assertEqual(way(RING, 0, 1), [0, 13, 1])
        self.assertEqual(way(RING, 0, 2), [0, 13, 2])
        self.assertEqual(way(RING, 11, 23), [11, 12, 10, 23])
        self.assertEqual(way(RING, 0, 12), [0, 13, 11, 12])
        self.assertEqual(way(RING, 13, 0), [13, 1, 14, 0])

    def test_every_two_threads_of_small_cloths(self):
        for cloth in SMALL:
            for one, other in product(range(threads(cloth)), repeat=2):
                self.assertEqual(way(cloth, one, other), way_by_trial(cloth, one, other))

    def test_every_two_threads_of_larger_cloths(self):
        for cloth in CLOTHS:
            lower = [beneath(cloth, thread) for thread in range(threads(cloth))]
            for other in range(threads(cloth)):
                steps = steps_to(lower, other)
                for one in range(threads(cloth)):
                    self.assertEqual(way(cloth, one, other), way_by_steps(lower, steps, one))

    def test_what_is_no_thread_is_refused_in_each_place(self):
        for cloth in (PLAIN, [[1]]):
            for bad in no_threads(cloth):
                for good in range(threads(cloth)):
                    check_refused(self, BadThread, way, cloth, bad, good)
                    check_refused(self, BadThread, way, cloth, good, bad)
                check_refused(self, BadThread, way, cloth, bad, bad)

    def test_what_is_no_cloth_is_refused_first(self):
        check_refuses_bad_cloths(self, way, 0, 1)
        check_refuses_bad_cloths(self, way, None, True)

    def test_nothing_changes(self):
        for one, other in product(range(5), repeat=2):
            check_own_list(self, way, [row.copy() for row in TABBY + TABBY], one, other)
        cloth = [row.copy() for row in DOUBLE]
        way(cloth, 1, 0)
        self.assertEqual(cloth, DOUBLE)


class HangsTest(unittest.TestCase):
    def test_cloths_that_hang_together(self):
        for cloth in (TABBY, TWILL, RING, [[0, 1] * 6, [1, 0] * 6] * 6):
            self.assertIs(hangs(cloth), True)

    def test_cloths_that_fall_apart(self):
        for cloth in ([[0]], [[1]], [[0, 1]], [[1] * 12] * 12, DOUBLE, LOWER_FIRST, BETWEEN, STEPS, PLAIN):
            self.assertIs(hangs(cloth), False)

    def test_it_is_so_where_ways_lead_from_each_thread_to_each_other_one(self):
        for cloth in CLOTHS + SMALL:
            every = product(range(threads(cloth)), repeat=2)
            self.assertIs(hangs(cloth), all(way(cloth, one, other) is not None for one, other in every))

    def test_it_is_so_where_nothing_can_be_lifted_off(self):
        for cloth in SMALL + list(all_cloths(3, 3)):
            many = threads(cloth)
            parts = [part for count in range(1, many) for part in combinations(range(many), count)]
            self.assertIs(hangs(cloth), not any(can_be_lifted_off(cloth, part) for part in parts))

    def test_what_is_no_cloth_is_refused(self):
        check_refuses_bad_cloths(self, hangs)

    def test_nothing_changes(self):
        cloth = [row.copy() for row in DOUBLE]
        hangs(cloth)
        self.assertEqual(cloth, DOUBLE)


class LayersTest(unittest.TestCase):
    def test_one_layer(self):
        self.assertEqual(layers(TABBY), [[0, 1, 2, 3]])
        self.assertEqual(layers(TWILL), [[0, 1, 2, 3, 4, 5]])
        self.assertEqual(layers(RING), [list(range(24))])

    def test_two_layers(self):
        self.assertEqual(layers(DOUBLE), [[0, 2, 4, 6], [1, 3, 5, 7]])
        self.assertEqual(layers(LOWER_FIRST), [[2, 3, 6, 7], [0, 1, 4, 5]])
        self.assertEqual(layers([[0]]), [[0], [1]])
        self.assertEqual(layers([[1]]), [[1], [0]])

    def test_single_threads_above_and_below_others(self):
        self.assertEqual(layers(BETWEEN), [[1], [0, 2, 3, 5], [4]])

    def test_as_many_as_there_are_threads(self):
        self.assertEqual(layers(PLAIN), [[2], [0], [3], [1], [4]])
        self.assertEqual(layers(STEPS), [[at // 2 + (0 if at % 2 else 12)] for at in range(24)])

    def test_of_those_that_may_come_next_that_with_the_least_thread(self):
        self.assertEqual(layers([[0] * 12] * 12), [[at] for at in range(24)])
        self.assertEqual(layers([[1] * 12] * 12), [[at] for at in [*range(12, 24), *range(12)]])
        self.assertEqual(layers([[0], [1], [0]]), [[0], [2], [3], [1]])
        self.assertEqual(layers([[1, 0, 1, 0]]), [[1], [3], [0], [2], [4]])

    def test_small_cloths(self):
        for cloth in SMALL:
            self.assertEqual(layers(cloth), layers_by_trial(cloth))

    def test_each_thread_is_in_just_one(self):
        for cloth in CLOTHS + SMALL:
            told = layers(cloth)
            self.assertEqual(sorted(sum(told, [])), list(range(threads(cloth))))
            for layer in told:
                self.assertEqual(layer, sorted(layer))

    def test_ways_lead_there_and_back_just_within_a_layer(self):
        for cloth in CLOTHS:
            for layer, with_layer in product(layers(cloth), repeat=2):
                for one, other in product(layer, with_layer):
                    both = way(cloth, one, other) is not None and way(cloth, other, one) is not None
                    self.assertEqual(both, layer == with_layer)

    def test_no_thread_lies_under_one_of_a_later_layer(self):
        for cloth in CLOTHS + SMALL:
            for upper, lower in combinations(layers(cloth), 2):
                for thread in lower:
                    self.assertFalse(set(beneath(cloth, thread)) & set(upper))

    def test_one_layer_just_where_it_hangs_together(self):
        for cloth in CLOTHS + SMALL + list(all_cloths(3, 3)):
            self.assertIs(hangs(cloth), len(layers(cloth)) == 1)

    def test_what_is_no_cloth_is_refused(self):
        check_refuses_bad_cloths(self, layers)

    def test_nothing_changes(self):
        for cloth in CLOTHS:
            check_own_list(self, layers, [list(row) for row in cloth])


if __name__ == "__main__":
    unittest.main()
