"""What the document says of standings, makings, histories and rows, worked out by the tests, the plain way."""

import itertools


def own_rules(scheme):
    return {(a, b): c for a, b, c in scheme[3]}


def walked(scheme, state, row):
    for operand in row:
        state = scheme[1][operand][state + 1]
    return state


def own_reads(scheme, standing):
    """The read of now, and the list of those of the held snapshots."""
    base, cells, holds = standing
    return walked(scheme, base, cells), [walked(scheme, base, cells[:position]) for position in holds]


def own_steps(scheme, standing):
    base, cells, holds = standing
    found = [("write", operand) for operand in scheme[2]]
    for k in range(len(cells) - 1):
        if (cells[k], cells[k + 1]) in own_rules(scheme) and holds.count(k + 1) == 0:
            found.append(("merge", k))
    if cells and (not holds or holds[0] > 0):
        found.append(("settle",))
    if len(holds) < 3:
        found.append(("hold",))
    return sorted(found + [("let", i) for i in range(len(holds))])


def own_after(scheme, standing, step):
    base, cells, holds = standing
    cells, holds = list(cells), list(holds)
    if step[0] == "write":
        cells.append(step[1])
    elif step[0] == "hold":
        holds.append(len(cells))
    elif step[0] == "let":
        del holds[step[1]]
    elif step[0] == "settle":
        base = walked(scheme, base, cells[:1])
        del cells[0]
        holds = [position - 1 for position in holds]
    else:
        k = step[1]
        result = own_rules(scheme)[cells[k], cells[k + 1]]
        cells[k:k + 2] = [] if result == -1 else [result]
        holds = [position - (2 if result == -1 else 1) if position >= k + 2 else position for position in holds]
    return base, tuple(cells), tuple(holds)


class Moment:
    """A moment of a history: its standing, the plain state, and those of the moments when snapshots were held."""

    def __init__(self, standing=(-1, (), ()), plain=-1, seen=()):
        self.standing, self.plain, self.seen = standing, plain, seen

    def key(self):
        return self.standing, self.plain, self.seen

    def then(self, scheme, step):
        plain, seen = self.plain, list(self.seen)
        if step[0] == "write":
            plain = walked(scheme, plain, step[1:])
        elif step[0] == "hold":
            seen.append(plain)
        elif step[0] == "let":
            del seen[step[1]]
        return Moment(own_after(scheme, self.standing, step), plain, tuple(seen))

    def is_right(self, scheme):
        return own_reads(scheme, self.standing) == (self.plain, list(self.seen))


def own_is_wrong(scheme, history):
    """Whether a tuple of what may be steps is a wrong history."""
    moment = Moment()
    for step in history:
        if not moment.is_right(scheme) or step not in own_steps(scheme, moment.standing):
            return False
        moment = moment.then(scheme, step)
    return not moment.is_right(scheme)


def all_histories(scheme, many):
    """All histories of this many steps, wrong ones and others."""
    if many == 0:
        yield (), Moment()
        return
    for history, moment in all_histories(scheme, many - 1):
        for step in own_steps(scheme, moment.standing):
            yield history + (step,), moment.then(scheme, step)


def own_fewest_steps(scheme, most):
    """The number of steps of a shortest wrong history, or None if none has at most this many steps."""
    newest = {Moment().key()}
    for many in range(1, most + 1):
        further = set()
        for key in newest:
            moment = Moment(*key)
            for step in own_steps(scheme, moment.standing):
                result = moment.then(scheme, step)
                if not result.is_right(scheme):
                    return many
                further.add(result.key())
        newest = further
    return None


def own_making_lengths(scheme, most):
    """The dict from each operand that is made in at most this many steps to the least number of steps for it."""
    rules = own_rules(scheme)
    # by_steps[n] are the operands that are made in just n steps.
    by_steps = [set(), set(scheme[2])]
    for many in range(2, most + 1):
        pairs = [pair for left in range(1, many - 1)
                 for pair in itertools.product(by_steps[left], by_steps[many - 1 - left])]
        by_steps.append({rules[pair] for pair in pairs if rules.get(pair, -1) != -1})
    return {operand: min(many for many in range(most + 1) if operand in by_steps[many])
            for operand in sorted(set().union(*by_steps))}


def own_made(scheme):
    found = set(scheme[2])
    for _ in scheme[1]:
        found |= {c for a, b, c in scheme[3] if a in found and b in found and c >= 0}
    return sorted(found)


def own_reached(scheme):
    found = {-1}
    for _ in range(scheme[0] + 1):
        found |= {walked(scheme, state, (operand,)) for state in found for operand in scheme[2]}
    return sorted(found)


def is_right_at(scheme, rule, state):
    a, b, c = rule
    return walked(scheme, state, (a, b)) == walked(scheme, state, () if c == -1 else (c,))


def own_open_pairs(scheme):
    operands = own_made(scheme)
    return [pair for pair in itertools.product(operands, repeat=2) if pair not in own_rules(scheme)]


def own_is_stack(scheme, row):
    return (all(type(operand) is int and operand in own_made(scheme) for operand in row)
            and all(pair in own_open_pairs(scheme) for pair in zip(row, row[1:])))


def own_stacks(scheme, many):
    """All stacks of this many operands, one or more."""
    pairs = own_open_pairs(scheme)
    rows = [(operand,) for operand in own_made(scheme)]
    for _ in range(many - 1):
        rows = [row + (b,) for row in rows for a, b in pairs if a == row[-1]]
    return rows


def own_longest(scheme):
    """The number of operands of a longest stack, or None if there is one with more than there are operands."""
    pairs = own_open_pairs(scheme)
    last = set(own_made(scheme))
    for many in range(1, len(scheme[1]) + 1):
        # These are the operands with which some stack of one operand more ends.
        last = {b for a, b in pairs if a in last}
        if not last:
            return many
    return None


def own_ends(scheme, row):
    """All ends of the row, by merging it wherever it may be, in each order."""
    ends = set()
    for p in range(len(row) - 1):
        c = own_rules(scheme).get(row[p:p + 2])
        if c is not None:
            ends |= own_ends(scheme, row[:p] + ((c,) if c >= 0 else ()) + row[p + 2:])
    return ends or {row}


def own_has_book(scheme):
    """Whether each rule of made operands is right at all reached states."""
    operands = own_made(scheme)
    rules = [rule for rule in scheme[3] if rule[0] in operands and rule[1] in operands]
    return all(is_right_at(scheme, rule, state) for rule in rules for state in own_reached(scheme))
