"""Families that several tests use, and a way to make many small ones."""

from itertools import permutations, product

from tests import reference

# Two elders that share a third one, and a plain thing of both.
DIAMOND = (
    ((), "a", 1),
    (((0, 1),), "b", 1),
    (((0, 1),), "ac", 2),
    (((1, 0), (2, 0)), "d", 1),
)

# The same plain elder along two roads: each road has one of its own.
TWICE = (
    ((), "a", 2),
    (((0, 0),), "", 0),
    (((0, 0),), "b", 1),
    (((1, 0), (2, 0)), "a", 0),
)

# A shared elder (1) with a shared elder of its own (0), and kind 3 shares 0 ahead of 1.
NESTED = (
    ((), "f", 3),
    (((0, 1),), "e", 0),
    (((1, 1),), "", 1),
    (((0, 1), (1, 1), (2, 0)), "", 2),
)

# Kind 5 has 16 parts; with one more plain step above it there would be 17.
SIXTEEN = (
    ((), "", 0),
    (((0, 0),), "", 0),
    (((1, 0), (0, 0)), "", 0),
    (((2, 0), (1, 0), (0, 0)), "", 0),
    (((1, 0),), "", 0),
    (((3, 0), (2, 0), (4, 0)), "", 0),
)


def elders_below(number):
    """All elders that the kind of this number may have."""
    found = []
    for count in range(min(3, number) + 1):
        for chosen in permutations(range(number), count):
            for flags in product((0, 1), repeat=count):
                found.append(tuple(zip(chosen, flags)))
    return found


def small_families():
    """Families of four kinds with all elders that there are, deeds and cells by turns."""
    letters = ("", "a", "b", "ab", "c", "ac", "f")
    choices = product(*[elders_below(number) for number in range(4)])
    for turn, chosen in enumerate(choices):
        yield tuple(
            (elders, letters[(turn + 3 * number) % 7], (turn + number) % 4)
            for number, elders in enumerate(chosen)
        )


# A chain of first plain elders, with a shared elder ahead of a plain one at its end.
CHAIN = (
    ((), "a", 1),
    (((0, 0),), "b", 0),
    ((), "c", 2),
    (((2, 1), (1, 0)), "ad", 1),
    (((3, 0), (2, 0)), "ce", 0),
)

FAMILIES = (DIAMOND, TWICE, NESTED, SIXTEEN, CHAIN)


def known_pairs(family):
    """All pairs (kind, deed) that can be asked of a family."""
    return [(kind, deed) for kind in range(len(family)) for deed in "abcdef" if reference.doers(family, kind, deed)]


def sound_families():
    """The small families that are families, each with a list of pairs, now long, now short, now empty."""
    for turn, family in enumerate(small_families()):
        if reference.first_bad(family) is None:
            pairs = known_pairs(family)
            yield family, [pairs[at] for at in range(len(pairs) - 1, -1, -1) if (turn + at * at) % 5 < turn % 6]
