"""What is over before what, and the stretches that tell it.

An order is handed on as rows of truths: over[x][y] says whether x is over before y.
Row 0 and place 0 stay False, so that a thing's number is its place.
"""


def over_before(size, told):
    """The rows for the things 1 to size, of the pairs that are told and of what follows from them."""
    over = [[False] * (size + 1) for thing in range(size + 1)]
    for x, y in told:
        over[x][y] = True
    # One round is enough just because what lies between is walked outermost.
    for between in range(1, size + 1):
        for x in range(1, size + 1):
            for y in range(1, size + 1):
                if over[x][between] and over[between][y]:
                    over[x][y] = True
    return over


def pairs_over(over):
    """The pairs of which the first is over before the second: the lower first thing first, then the lower second."""
    pairs = []
    for x in range(1, len(over)):
        for y in range(1, len(over)):
            if over[x][y]:
                pairs.append((x, y))
    return pairs


def all_before(over, thing):
    """The set of all that is over before the thing, as a rising list, so that the same sets are the same lists."""
    return [x for x in range(1, len(over)) if over[x][thing]]


def sets_before(over):
    """For each thing the set of all that is over before it; each such set once."""
    sets = []
    for thing in range(1, len(over)):
        before = all_before(over, thing)
        if before not in sets:
            sets.append(before)
    return sets


def is_less(one, other):
    """Whether all of the one set is in the other, and the other has more."""
    return len(one) < len(other) and all([thing in other for thing in one])


def how_many_moments(over):
    return len(sets_before(over))


def begins_and_ends(over):
    """Of each thing, in order, the moments at which it begins and ends, as a pair."""
    sets = sets_before(over)
    spans = []
    for thing in range(1, len(over)):
        own = all_before(over, thing)
        less = [before for before in sets if is_less(before, own)]
        without = [before for before in sets if thing not in before]
        spans.append((len(less) + 1, len(without)))
    return spans


def do_tell(spans, over):
    """Whether x is over before y just where the span of x ends earlier than that of y begins."""
    for x, first in enumerate(spans, start=1):
        for y, second in enumerate(spans, start=1):
            # No thing is over before itself: so this asks, too, that none ends before it begins.
            if over[x][y] != (first[1] < second[0]):
                return False
    return True


def stretches_told(over):
    """The stretches told, as pairs of begin and end; None if no stretches tell the order."""
    spans = begins_and_ends(over)
    # If any stretches tell the order, these do: so it's enough to try them alone.
    if do_tell(spans, over):
        return spans
    return None
