"""Whether a cloth hangs together, and the layers into which it falls.

A way leads from thread to thread, each of which lies over the next one. Two
threads are in one layer where ways lead from the one to the other and back.
"""

from clothlayers.cloths import count_threads, lower_threads, need_cloth, need_thread


def ways_from(rows, first):
    """For each thread to which ways lead from the first one, the way that is to be told."""
    ways = {first: [first]}
    newest = [first]
    while newest:
        found = []
        # The newest threads stand in the order of their ways, and the lower ones rise:
        # so the first way that is found to a thread is the first one as lists stand.
        for thread in newest:
            for other in lower_threads(rows, thread):
                if other not in ways:
                    ways[other] = ways[thread] + [other]
                    found.append(other)
        newest = found
    return ways


def way(cloth, one, other):
    """The way with the fewest threads, of these the first one as lists stand; None where there is none."""
    rows = need_cloth(cloth)
    need_thread(rows, one)
    need_thread(rows, other)
    ways = ways_from(rows, one)
    return ways.get(other)


def all_ways(rows):
    """For each thread the ways from it."""
    return [ways_from(rows, thread) for thread in range(count_threads(rows))]


def layer_with(ways, thread):
    """The threads to which ways lead from this one and back, rising."""
    return [other for other in range(len(ways)) if other in ways[thread] and thread in ways[other]]


def layers_by_least(ways):
    """The layers, told by their least threads, not from above."""
    by_thread = [layer_with(ways, thread) for thread in range(len(ways))]
    return [layer for thread, layer in enumerate(by_thread) if layer[0] == thread]


def may_come_next(ways, layer, left):
    """Whether no way leads to the layer from another one of those that are left."""
    # A way to one thread of a layer leads on to all of them.
    return all(other == layer or layer[0] not in ways[other[0]] for other in left)


def layers(cloth):
    """The layers of the cloth, told from above, each a rising list of threads."""
    rows = need_cloth(cloth)
    ways = all_ways(rows)
    left = layers_by_least(ways)
    told = []
    while left:
        # Those that are left stand by their least threads, so the first that may come next does.
        upper = [layer for layer in left if may_come_next(ways, layer, left)]
        told.append(upper[0])
        left.remove(upper[0])
    return told


def hangs(cloth):
    """Whether the cloth hangs together: whether it is all one layer."""
    return len(layers(cloth)) == 1
