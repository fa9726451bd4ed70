"""What several tests use: the document's schemes, odd values, and a strict comparison."""

import itertools
import random
import unittest

TALLY = (2, ((0, 0, 0), (0, 1, 1), (-1, -1, -1)), (0, 1, 2),
         ((0, 0, 0), (0, 2, 2), (1, 0, 0), (1, 2, 2), (2, 0, 0), (2, 2, 2)))
BAD = TALLY[:3] + (((0, 0, 0), (0, 2, 2), (1, 0, 0), (1, 1, 1), (1, 2, 2), (2, 0, 0), (2, 2, 2)),)
FULL = (2, ((0, 0, 0), (0, 1, 1), (-1, -1, -1), (1, 1, 1)), (0, 1, 2),
        ((0, 0, 0), (0, 1, 3), (0, 2, 2), (0, 3, 3), (1, 0, 0), (1, 1, 3), (1, 2, 2), (1, 3, 3),
         (2, 0, 0), (2, 1, 0), (2, 2, 2), (2, 3, 3), (3, 0, 0), (3, 1, 3), (3, 2, 2), (3, 3, 3)))
OPEN = FULL[:3] + (FULL[3][:9] + FULL[3][10:],)
LOOSE = TALLY[:3] + (((0, 1, 0), (1, 1, -1)),)
SWAP = (1, ((0, -1),), (0,), ())

DOCUMENTED = [TALLY, BAD, FULL, OPEN, LOOSE, SWAP]


def nested(depth, make, core):
    """The core inside `depth` values, each made of the one before."""
    value = core
    for _ in range(depth):
        value = make(value)
    return value


# One or more of each kind that "any value" names; none of them is a scheme, or a part of one.
ODD_VALUES = [
    None, True, False, -2, 7, 10 ** 59, -(10 ** 59), "", "0", "abcd", "values 1", [], [0], [[0]], {}, {0: 0},
    {None: (1, [2])}, {-1: 0, 0: 1}, (None,), ("0",), (True,), (False,), ([],), ({},), ((),), ([0],), ((True,),),
    (((0, 0, "0"),),), nested(20, lambda x: (x,), 0), nested(20, lambda x: [x], 0),
    nested(20, lambda x: {"k": x}, 0), [0] * 20000, (None,) * 20000, "x" * 20000,
]


def with_part(value, at, part):
    return value[:at] + (part,) + value[at + 1:]


def with_rules(scheme, rules):
    return scheme[:3] + (tuple(sorted(rules)),)


def with_written(scheme, written):
    return (scheme[0], scheme[1], written, scheme[3])


def all_written(scheme):
    operands = range(len(scheme[1]))
    return [written for many in range(1, len(scheme[1]) + 1) for written in itertools.combinations(operands, many)]


def replaced(value, change):
    """Each value that differs from this one in one place, at any depth, as change tells."""
    found = change(value)
    if isinstance(value, tuple):
        for at, item in enumerate(value):
            found += [value[:at] + (other,) + value[at + 1:] for other in replaced(item, change)]
    if isinstance(value, dict):
        for key, item in value.items():
            rest = {other: number for other, number in value.items() if other != key}
            found += [{**rest, key: other} for other in replaced(item, change)]
            found += [{**rest, other: item} for other in replaced(key, change) if is_key(other) and other not in rest]
    return found


def is_key(value):
    try:
        hash(value)
    except TypeError:
        return False
    return True


def as_list(value):
    return [list(value)] if isinstance(value, tuple) else []


def as_bool(value):
    return [True, False] if isinstance(value, int) else []


def as_odd(value):
    return list(ODD_VALUES)


def as_neighbour(value):
    return [value - 1, value + 1] if isinstance(value, int) else []


def random_effects(rng, v, many):
    return tuple(tuple(rng.randrange(-1, v) for _ in range(v + 1)) for _ in range(many))


def random_rules(rng, many, share, nothing=0.15):
    """Rules for about this share of the pairs of operands, some of them into nothing."""
    pairs = [pair for pair in itertools.product(range(many), repeat=2) if rng.random() < share]
    return tuple((a, b, -1 if rng.random() < nothing else rng.randrange(many)) for a, b in pairs)


def random_scheme(rng, most_operands=4, most_values=3):
    v = rng.randint(1, most_values)
    many = rng.randint(1, most_operands)
    written = tuple(sorted(rng.sample(range(many), rng.randint(1, many))))
    return (v, random_effects(rng, v, many), written, random_rules(rng, many, rng.random()))


def joined_effect(one, other):
    return tuple(other[state + 1] for state in one)


def mostly_right_scheme(rng, wrong):
    """A scheme whose rules are right at all states, but for this share of them, which are as they come."""
    v = rng.randint(1, 3)
    effects = random_effects(rng, v, rng.randint(1, 2))
    while len(effects) < rng.randint(2, 5):
        effects += (joined_effect(rng.choice(effects), rng.choice(effects)),)
    many = len(effects)
    rules = []
    for a, b in itertools.product(range(many), repeat=2):
        both = joined_effect(effects[a], effects[b])
        right = [c for c in range(many) if effects[c] == both] + [-1] * (both == tuple(range(-1, v)))
        if rng.random() < wrong:
            rules.append((a, b, rng.randrange(-1, many)))
        elif right and rng.random() < 0.8:
            rules.append((a, b, rng.choice(right)))
    written = tuple(sorted(rng.sample(range(many), rng.randint(1, many))))
    return (v, effects, written, tuple(rules))


def random_schemes(seed, many):
    """As many schemes, always the same for the same seed: some wild, some whose rules are mostly right."""
    rng = random.Random(seed)
    makers = [random_scheme, lambda rng: mostly_right_scheme(rng, 0), lambda rng: mostly_right_scheme(rng, 0.1)]
    return [makers[at % 3](rng) for at in range(many)]


ALL_PAIRS = list(itertools.product(range(6), repeat=2))


def random_pairs(rng, with_rings):
    """Up to fourteen pairs of six operands, which go round in no ring if there are to be none."""
    pairs = ALL_PAIRS if with_rings else list(itertools.combinations(rng.sample(range(6), 6), 2))
    return rng.sample(pairs, rng.randint(0, 14))


# Each operand is made of two of the one before it, and all are put 0, so that each rule is right.
DOUBLINGS = (1, ((0, 0),) * 6, (0,), tuple((k, k, k + 1) for k in range(5)))
# The same, but the operand that goes round all five states.
ROUNDS = (4, tuple(tuple((state + 1 + 2 ** k) % 5 - 1 for state in range(-1, 4)) for k in range(6)), (0,),
          tuple((k, k, k + 1) for k in range(5)))


def is_same(one, other):
    """Equality that also tells 1 from True, and tuples from lists, at any depth."""
    if type(one) is not type(other):
        return False
    if isinstance(one, dict):
        return is_same(sorted(one.items(), key=repr), sorted(other.items(), key=repr))
    if isinstance(one, (tuple, list)):
        return len(one) == len(other) and all(is_same(a, b) for a, b in zip(one, other))
    return one == other


class StrictCase(unittest.TestCase):
    def assert_same(self, found, wanted):
        self.assertTrue(is_same(found, wanted), f"{found!r} is not {wanted!r}")
