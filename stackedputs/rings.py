"""Ranks, longest rows and rings among things that follow each other: what stacks and readers have in common.

nexts is a dict from each thing to the list of those that may follow it, each of which is a key, too.
"""


def ranks_among(nexts):
    """Returns the dict from each thing to the length of a longest row from it on, or None if there is a ring."""
    ranks = _ranks_beside_rings(nexts)
    return ranks if len(ranks) == len(nexts) else None


def longest_among(nexts):
    """Returns a tuple of as many things as can follow each other, or None if there is a ring."""
    ranks = ranks_among(nexts)
    if ranks is None:
        return None
    best = max(ranks.values())
    row = [thing for thing in ranks if ranks[thing] == best][:1]
    while ranks[row[-1]] > 1:
        # A rank is one more than the greatest rank of what can follow: so there is always one.
        row.append([thing for thing in nexts[row[-1]] if ranks[thing] == ranks[row[-1]] - 1][0])
    return tuple(row)


def ring_among(nexts):
    """Returns a tuple of things that follow each other and the first one the last one, or None if there is none."""
    ranks = _ranks_beside_rings(nexts)
    lost = [thing for thing in nexts if thing not in ranks]
    if not lost:
        return None
    row = []
    thing = lost[0]
    # What has no rank has something without a rank that may follow it: so this comes round at last.
    while thing not in row:
        row.append(thing)
        thing = [other for other in nexts[thing] if other not in ranks][0]
    return tuple(row[row.index(thing):])


def _ranks_beside_rings(nexts):
    """Returns the dict of the ranks of those things from which no ring can be come to."""
    ranks = {}
    # In each of these rounds at least one more thing gets a rank, if any still can.
    for _ in nexts:
        for thing, others in nexts.items():
            if thing not in ranks and all([other in ranks for other in others]):
                ranks[thing] = 1 + max([ranks[other] for other in others], default=0)
    return ranks
