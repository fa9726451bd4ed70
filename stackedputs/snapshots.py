"""Snapshots: how many cells are left while some are held, and which to let go."""

from stackedputs.ends import fewest_left, places
from stackedputs.stacks import longest_row


def stretches(standing):
    """Returns the tuple of the rows of cells before, between and behind the held positions."""
    _, cells, holds = standing
    starts = (0,) + holds
    stops = holds + (len(cells),)
    return tuple([cells[start:stop] for start, stop in zip(starts, stops)])


def barred(scheme, standing):
    """Returns the ascending list of the k at which a merge is barred by a held snapshot alone."""
    _, cells, holds = standing
    return [k for k in places(scheme, cells) if k + 1 in holds]


def fewest_cells(scheme, standing):
    """Returns the least number of cells that merging alone can lead to."""
    # No merge crosses a held position, nor does what is merged on one side of it change the other one.
    return sum([fewest_left(scheme, row) for row in stretches(standing)])


def most_cells(scheme, h):
    """Returns the greatest number of cells at which merging can end with h held snapshots, or None if there is none."""
    row = longest_row(scheme)
    return None if row is None else (h + 1) * len(row)


def fewest_lets(scheme, standing, n):
    """Returns the indices of as few snapshots as can be let go for at most n cells, or None if no letting go is enough.
    """
    base, cells, holds = standing
    for _, lets in sorted(_sizes_and_subsets(len(holds))):
        kept = tuple([position for i, position in enumerate(holds) if i not in lets])
        if fewest_cells(scheme, (base, cells, kept)) <= n:
            return lets
    return None


def _sizes_and_subsets(many):
    """Returns the list of (size, subset) for all ascending tuples of different indices below this number."""
    subsets = [()]
    for i in range(many):
        subsets = subsets + [subset + (i,) for subset in subsets]
    return [(len(subset), subset) for subset in subsets]
