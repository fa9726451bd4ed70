"""Logs of stores: lists of (call, reads), the calls that were made and the reads of all keys after each of them."""

from stackedputs.errors import StackedputsError
from stackedputs.schemes import is_integer
from stackedputs.stores import Store, compaction

# How many items a call has, with its word.
_SIZES = {"write": 3, "merge": 3, "settle": 2, "compact": 2, "hold": 1, "let": 2}


def store_log(store):
    """Returns the log of the store."""
    return store.log()


def first_store_fault(scheme, keys, value):
    """Returns the number of the first entry of the list that is not right, or None if it is a log."""
    store = Store(scheme, keys)
    for number, entry in enumerate(value):
        if not _is_next_entry(store, keys, entry):
            return number
    return None


def is_store_log(scheme, keys, value):
    """Accepts any value as value. Returns whether it is a log."""
    return isinstance(value, list) and first_store_fault(scheme, keys, value) is None


def history_of(scheme, keys, log, key):
    """Returns the tuple of the steps that the log has for the key."""
    store = Store(scheme, keys)
    history = []
    for call, _ in log:
        history.extend(_steps_for(scheme, store, call, key))
        _make(store, call)
    return tuple(history)


def _is_next_entry(store, keys, value):
    """Returns whether the value is an entry behind those that the store has. If so, the store has it, too."""
    if not isinstance(value, tuple) or len(value) != 2 or not _is_call(value[0]):
        return False
    call, reads = value
    try:
        _make(store, call)
    except StackedputsError:
        return False
    # Integers first: reads with True in them would be equal to those with 1.
    if not isinstance(reads, tuple) or not all([is_integer(state) for state in reads]):
        return False
    return reads == tuple([store.read(key) for key in range(keys)])


def _is_call(value):
    """Returns whether the value has the form of a call, whatever it is for."""
    if not isinstance(value, tuple) or len(value) == 0 or not isinstance(value[0], str):
        return False
    return _SIZES.get(value[0]) == len(value)


def _make(store, call):
    """Makes the call on the store."""
    word = call[0]
    if word == "write":
        store.write(call[1], call[2])
    elif word == "merge":
        store.merge(call[1], call[2])
    elif word == "settle":
        store.settle(call[1])
    elif word == "compact":
        store.compact(call[1])
    elif word == "hold":
        store.hold()
    else:
        store.let(call[1])


def _steps_for(scheme, store, call, key):
    """Returns the list of the steps that a call, which the store may make now, has for the key."""
    if call[0] == "hold":
        return [call]
    if call[0] == "let":
        return [("let", store.held().index(call[1]))]
    if call[1] != key:
        return []
    if call[0] == "compact":
        return compaction(scheme, store.standing_of(key))
    # What is left is the same without the key.
    return [call[:1] + call[2:]]
