"""Shortest walks: what the searches for ways and for mergings have in common."""


def shortest_walks(start, moves):
    """Returns the dict from each place that can be walked to, to the marks of a walk with as few moves as can be.

    moves is a function from a place to the list of its moves, pairs of a mark and the place to which it leads.
    """
    found = {start: ()}
    newest = [start]
    # Each round adds the places whose shortest walks have one move more than the last round's.
    while newest:
        further = []
        for place in newest:
            for mark, result in moves(place):
                if result not in found:
                    found[result] = found[place] + (mark,)
                    further.append(result)
        newest = further
    return found
