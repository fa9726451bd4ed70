"""Live stores: several keys, each with a standing of its own, and snapshots that are held for all of them at once."""

from stackedputs.errors import InvalidHold, InvalidKey, InvalidOperand, NoMerge, NoSettle, TooManyHolds
from stackedputs.schemes import ABSENT, effect, is_integer, is_integer_from
from stackedputs.standings import MOST_HOLDS, after, beginning, is_step, read_held, read_now


class Store:
    """A store of a scheme with keys from 0 on, at first without any cells and snapshots.

    Its state is a tuple (standings, plains, held, number): the standing and the plain state of each key, the numbers
    of the held snapshots, and the number that the next one gets. Such a tuple is never changed, so all states that
    there were can be kept: to take a call back is to leave out the newest one.
    """

    def __init__(self, scheme, keys):
        self._scheme = scheme
        self._states = [((beginning(scheme),) * keys, (ABSENT,) * keys, (), 0)]
        # One call less than there are states: each of them led from one state to the next one.
        self._calls = []

    def write(self, key, operand):
        """Puts a further cell above the others of the key."""
        self._check_key(key)
        if not self._may(key, ("write", operand)):
            raise InvalidOperand(operand)
        self._take(("write", key, operand), [("write", operand)])

    def merge(self, key, index):
        """Merges the cells of the key at the index and behind it."""
        self._check_key(key)
        if not self._may(key, ("merge", index)):
            raise NoMerge(key, index)
        self._take(("merge", key, index), [("merge", index)])

    def settle(self, key):
        """Lets the oldest cell of the key act on its base."""
        self._check_key(key)
        if not self._may(key, ("settle",)):
            raise NoSettle(key)
        self._take(("settle", key), [("settle",)])

    def compact(self, key):
        """Merges the cells of the key, always those with the least index, and returns the number of merges."""
        self._check_key(key)
        merges = compaction(self._scheme, self.standing_of(key))
        self._take(("compact", key), merges)
        return len(merges)

    def hold(self):
        """Holds a snapshot of all keys and returns its number."""
        _, _, held, number = self._states[-1]
        if len(held) == MOST_HOLDS:
            raise TooManyHolds()
        self._take_everywhere(("hold",), ("hold",), held + (number,), number + 1)
        return number

    def let(self, number):
        """Lets the snapshot with this number go."""
        index = self._index_of(number)
        _, _, held, following = self._states[-1]
        self._take_everywhere(("let", number), ("let", index), held[:index] + held[index + 1:], following)

    def read(self, key):
        """Returns the read of now of the key."""
        self._check_key(key)
        return read_now(self._scheme, self.standing_of(key))

    def read_held(self, number, key):
        """Returns the read of the key in the snapshot with this number."""
        index = self._index_of(number)
        self._check_key(key)
        return read_held(self._scheme, self.standing_of(key), index)

    def plain(self, key):
        """Returns the plain state of the key."""
        self._check_key(key)
        return self._states[-1][1][key]

    def standing_of(self, key):
        """Returns the standing of the key."""
        return self._states[-1][0][key]

    def held(self):
        """Returns the ascending list of the numbers of the held snapshots."""
        return list(self._states[-1][2])

    def undo(self):
        """Takes the last call back and returns it as a tuple, or None if there is none."""
        if not self._calls:
            return None
        self._states.pop()
        return self._calls.pop()

    def log(self):
        """Returns the list of (call, reads) for the calls that were not taken back."""
        return [(call, self._reads(state)) for call, state in zip(self._calls, self._states[1:])]

    def __len__(self):
        return len([cell for _, cells, _ in self._states[-1][0] for cell in cells])

    def __eq__(self, other):
        return isinstance(other, Store) and self._scheme == other._scheme and self._states[-1] == other._states[-1]

    def _check_key(self, key):
        if not is_integer_from(0, len(self._states[-1][0]) - 1, key):
            raise InvalidKey(key)

    def _index_of(self, number):
        held = self.held()
        if not is_integer(number) or number not in held:
            raise InvalidHold(number)
        return held.index(number)

    def _may(self, key, step):
        return is_step(self._scheme, self.standing_of(key), step)

    def _take(self, call, steps):
        """Makes a call for one key, by these steps of its standing."""
        standings, plains, held, number = self._states[-1]
        key = call[1]
        standing, plain = standings[key], plains[key]
        for step in steps:
            standing = after(self._scheme, standing, step)
            if step[0] == "write":
                plain = effect(self._scheme, step[1], plain)
        self._enter(call, (_with_item(standings, key, standing), _with_item(plains, key, plain), held, number))

    def _take_everywhere(self, call, step, held, number):
        """Makes a call for all keys, by this step of each standing, after which these numbers are held."""
        standings, plains, _, _ = self._states[-1]
        moved = tuple([after(self._scheme, standing, step) for standing in standings])
        self._enter(call, (moved, plains, held, number))

    def _enter(self, call, state):
        self._calls.append(call)
        self._states.append(state)

    def _reads(self, state):
        return tuple([read_now(self._scheme, standing) for standing in state[0]])


def compaction(scheme, standing):
    """Returns the list of the merges that a compaction makes, one after another."""
    merges = []
    left, k = standing, 0
    while k < len(left[1]) - 1:
        if is_step(scheme, left, ("merge", k)):
            merges.append(("merge", k))
            left = after(scheme, left, ("merge", k))
            # Below the place before it nothing has changed: so no merge with a lesser index has become a step.
            k = max(k - 1, 0)
        else:
            k += 1
    return merges


def _with_item(items, at, item):
    return items[:at] + (item,) + items[at + 1:]
