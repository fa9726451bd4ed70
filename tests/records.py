"""What the document says of live stores, kept by the tests themselves, the plain way."""

import random

from searches import own_after, own_reads, own_steps, walked
from stackedputs.errors import InvalidHold, InvalidKey, InvalidOperand, NoMerge, NoSettle, TooManyHolds

# Nothing of these is a key of a store of four keys, an operand, an index or a number of a snapshot.
NO_NUMBERS = [-1, -2, 6, 10 ** 59, -(10 ** 59), True, False, None, "", "0", "write", (), (0,), [], [0], {}, {0: 0},
              ((0,),), [[0]]]


def is_number(value):
    return type(value) is int


def call_on(store, call):
    """Makes a call, as undo tells it, on a store, and returns what it returns."""
    return getattr(store, call[0])(*call[1:])


def error_of(store, call):
    """The error that the call on the store raises, as a tuple of its class and what it holds, or None."""
    names = {InvalidKey: ["key"], InvalidOperand: ["operand"], NoMerge: ["key", "index"], NoSettle: ["key"],
             TooManyHolds: [], InvalidHold: ["number"]}
    try:
        call_on(store, call)
    except tuple(names) as error:
        return (type(error), *[getattr(error, name) for name in names[type(error)]])
    return None


class Record:
    """What a store must be after some calls: lists of standings, plain states, held numbers, and a history by key."""

    def __init__(self, scheme, keys):
        self.scheme, self.keys = scheme, keys
        self.standings = [(-1, (), ())] * keys
        self.plains = [-1] * keys
        self.held, self.next = [], 0
        # For each held number the plain states of all keys when it was held.
        self.seen = {}
        self.histories = [[] for _ in range(keys)]
        self.log = []
        self.past = []

    def is_key(self, key):
        return is_number(key) and 0 <= key < self.keys

    def may_step(self, key, step):
        return all(is_number(item) for item in step[1:]) and step in own_steps(self.scheme, self.standings[key])

    def wanted_error(self, call):
        """The error that the call must raise, as error_of tells it, or None."""
        word, *rest = call
        if word == "let":
            return None if is_number(rest[0]) and rest[0] in self.held else (InvalidHold, rest[0])
        if word == "hold":
            return (TooManyHolds,) if len(self.held) == 3 else None
        if not self.is_key(rest[0]):
            return (InvalidKey, rest[0])
        if word == "compact" or self.may_step(rest[0], (word, *rest[1:])):
            return None
        return {"write": (InvalidOperand, *rest[1:]), "merge": (NoMerge, *rest), "settle": (NoSettle, rest[0])}[word]

    def make(self, call):
        """Makes a call that raises nothing, and returns what the store must return."""
        assert self.wanted_error(call) is None, call
        self.past.append(self.copies())
        result = getattr(self, "make_" + call[0])(*call[1:])
        self.log.append((call, tuple(self.reads())))
        return result

    def copies(self):
        """All attributes that a call changes, as they are now."""
        return {"standings": list(self.standings), "plains": list(self.plains), "held": list(self.held),
                "next": self.next, "seen": dict(self.seen), "log": list(self.log),
                "histories": [list(history) for history in self.histories]}

    def step(self, key, step):
        self.standings[key] = own_after(self.scheme, self.standings[key], step)
        self.histories[key].append(step)

    def make_write(self, key, operand):
        self.step(key, ("write", operand))
        self.plains[key] = walked(self.scheme, self.plains[key], (operand,))

    def make_merge(self, key, index):
        self.step(key, ("merge", index))

    def make_settle(self, key):
        self.step(key, ("settle",))

    def make_compact(self, key):
        many = 0
        while merges := [step for step in own_steps(self.scheme, self.standings[key]) if step[0] == "merge"]:
            self.step(key, min(merges))
            many += 1
        return many

    def make_hold(self):
        for key in range(self.keys):
            self.step(key, ("hold",))
        self.held.append(self.next)
        self.seen[self.next] = list(self.plains)
        self.next += 1
        return self.held[-1]

    def make_let(self, number):
        for key in range(self.keys):
            self.step(key, ("let", self.held.index(number)))
        self.held.remove(number)
        del self.seen[number]

    def undo(self):
        if not self.past:
            return None
        call = self.log[-1][0]
        vars(self).update(self.past.pop())
        return call

    def reads(self):
        return [own_reads(self.scheme, standing)[0] for standing in self.standings]

    def reads_held(self, number):
        return [own_reads(self.scheme, standing)[1][self.held.index(number)] for standing in self.standings]

    def cells(self):
        return sum(len(standing[1]) for standing in self.standings)

    def calls(self):
        """All calls that raise nothing, as undo tells them."""
        found = [("let", number) for number in self.held] + [("hold",)] * (len(self.held) < 3)
        for key in range(self.keys):
            found.append(("compact", key))
            found += [(step[0], key, *step[1:]) for step in own_steps(self.scheme, self.standings[key])
                      if step[0] in ("write", "merge", "settle")]
        return found


def random_call(rng, record):
    """A call that raises nothing; each kind that there is comes up as often, but writes more often."""
    calls = record.calls()
    words = sorted({call[0] for call in calls}) + ["write"] * 3
    word = rng.choice(words)
    return rng.choice([call for call in calls if call[0] == word])


def random_odd_call(rng):
    """A call of odd values, or of numbers that may be keys and the like or not."""
    def pick():
        return rng.choice([rng.choice(NO_NUMBERS), rng.randrange(-1, 6), rng.randrange(0, 3)])
    word = rng.choice(["write", "merge", "settle", "compact", "hold", "let"])
    return (word, *[pick() for _ in range({"write": 2, "merge": 2, "hold": 0}.get(word, 1))])


def random_log(seed, scheme, keys, many):
    """The record of a store on which as many calls were made, some of them taken back at once."""
    rng = random.Random(seed)
    record = Record(scheme, keys)
    for _ in range(many):
        record.make(random_call(rng, record))
        if rng.random() < 0.1:
            record.undo()
    return record
