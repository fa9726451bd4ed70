"""What several tests use: the document's schemes, odd values, and a strict comparison."""

import unittest

TALLY = (2, ((0, 0, 0), (0, 1, 1), (-1, -1, -1)), (0, 1, 2),
         ((0, 0, 0), (0, 2, 2), (1, 0, 0), (1, 2, 2), (2, 0, 0), (2, 2, 2)))
BAD = TALLY[:3] + (((0, 0, 0), (0, 2, 2), (1, 0, 0), (1, 1, 1), (1, 2, 2), (2, 0, 0), (2, 2, 2)),)
FULL = (2, ((0, 0, 0), (0, 1, 1), (-1, -1, -1), (1, 1, 1)), (0, 1, 2),
        ((0, 0, 0), (0, 1, 3), (0, 2, 2), (0, 3, 3), (1, 0, 0), (1, 1, 3), (1, 2, 2), (1, 3, 3),
         (2, 0, 0), (2, 1, 0), (2, 2, 2), (2, 3, 3), (3, 0, 0), (3, 1, 3), (3, 2, 2), (3, 3, 3)))
OPEN = FULL[:3] + (FULL[3][:9] + FULL[3][10:],)
LOOSE = TALLY[:3] + (((0, 1, 0), (1, 1, -1)),)
SWAP = (1, ((0, -1),), (0,), ())

DOCUMENTED = [TALLY, BAD, FULL, OPEN, LOOSE, SWAP]


def nested(depth, make, core):
    """The core inside `depth` values, each made of the one before."""
    value = core
    for _ in range(depth):
        value = make(value)
    return value


# One or more of each kind that "any value" names; none of them is a scheme, or a part of one.
ODD_VALUES = [
    None, True, False, -2, 7, 10 ** 59, -(10 ** 59), "", "0", "abcd", "values 1", [], [0], [[0]], {}, {0: 0},
    {None: (1, [2])}, {-1: 0, 0: 1}, (None,), ("0",), (True,), (False,), ([],), ({},), ((),), ([0],), ((True,),),
    (((0, 0, "0"),),), nested(20, lambda x: (x,), 0), nested(20, lambda x: [x], 0),
    nested(20, lambda x: {"k": x}, 0), [0] * 20000, (None,) * 20000, "x" * 20000,
]


def is_same(one, other):
    """Equality that also tells 1 from True, and tuples from lists, at any depth."""
    if type(one) is not type(other):
        return False
    if isinstance(one, dict):
        return is_same(sorted(one.items(), key=repr), sorted(other.items(), key=repr))
    if isinstance(one, (tuple, list)):
        return len(one) == len(other) and all(is_same(a, b) for a, b in zip(one, other))
    return one == other


class StrictCase(unittest.TestCase):
    def assert_same(self, found, wanted):
        self.assertTrue(is_same(found, wanted), f"{found!r} is not {wanted!r}")
