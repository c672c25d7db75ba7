"""Sets of moments, each told by the rising list of its bounds."""

from knownwhen.limits import NEVER


def holds(bounds, moment):
    return len([bound for bound in bounds if bound <= moment]) % 2 == 1


# The moments that are in at least so many of the sets: one walk serves for any number of sets.
def covered(sets, least):
    steps = {}
    for bounds in sets:
        for place, bound in enumerate(bounds):
            step = 1 if place % 2 == 0 else -1
            steps[bound] = steps.get(bound, 0) + step
    depth = 0
    result = []
    for bound in sorted(steps):
        depth_before = depth
        depth += steps[bound]
        if (depth_before >= least) != (depth >= least):
            result.append(bound)
    return result


def any_of(sets):
    return covered(sets, 1)


def both(first, second):
    return covered([first, second], 2)


def just_one(first, second):
    # A moment is in a set if an odd number of bounds is not behind it, so a bound
    # that both sets have changes nothing here, and one that a single set has stays.
    return sorted(set(first) ^ set(second))


def without(first, second):
    return just_one(first, both(first, second))


# The moments that lie so far ahead of those of the set; what would lie ahead of the moment 0 is cut off.
def ahead(bounds, distance):
    start = [0] if holds(bounds, distance) else []
    return start + [bound - distance for bound in bounds if bound > distance]


# A pair for each longest run of moments: its first moment, and the first behind it.
def runs(bounds):
    return list(zip(bounds[0::2], bounds[1::2] + [NEVER]))
