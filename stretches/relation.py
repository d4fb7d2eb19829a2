"""What is over before what, the stretches that tell it, what forbids them, and what lasts at the same time.

An order is handed on as rows of truths: over[x][y] says whether x is over before y.
Row 0 and place 0 stay False, so that a thing's number is its place.
"""


def over_before(size, told):
    """The rows for the things 1 to size, of the pairs that are told and of what follows from them."""
    over = [[False] * (size + 1) for thing in range(size + 1)]
    for x, y in told:
        over[x][y] = True
    # One round is enough just because what lies between is walked outermost.
    for between in range(1, size + 1):
        for x in range(1, size + 1):
            for y in range(1, size + 1):
                if over[x][between] and over[between][y]:
                    over[x][y] = True
    return over


def pairs_over(over):
    """The pairs of which the first is over before the second: the lower first thing first, then the lower second."""
    pairs = []
    for x in range(1, len(over)):
        for y in range(1, len(over)):
            if over[x][y]:
                pairs.append((x, y))
    return pairs


def all_before(over, thing):
    """The set of all that is over before the thing, as a rising list, so that the same sets are the same lists."""
    return [x for x in range(1, len(over)) if over[x][thing]]


def sets_before(over):
    """For each thing the set of all that is over before it; each such set once."""
    sets = []
    for thing in range(1, len(over)):
        before = all_before(over, thing)
        if before not in sets:
            sets.append(before)
    return sets


def is_less(one, other):
    """Whether all of the one set is in the other, and the other has more."""
    return len(one) < len(other) and all([thing in other for thing in one])


def how_many_moments(over):
    return len(sets_before(over))


def begins_and_ends(over):
    """Of each thing, in order, the moments at which it begins and ends, as a pair."""
    sets = sets_before(over)
    spans = []
    for thing in range(1, len(over)):
        own = all_before(over, thing)
        less = [before for before in sets if is_less(before, own)]
        without = [before for before in sets if thing not in before]
        spans.append((len(less) + 1, len(without)))
    return spans


def do_tell(spans, over):
    """Whether x is over before y just where the span of x ends earlier than that of y begins."""
    for x, first in enumerate(spans, start=1):
        for y, second in enumerate(spans, start=1):
            # No thing is over before itself: so this asks, too, that none ends before it begins.
            if over[x][y] != (first[1] < second[0]):
                return False
    return True


def stretches_told(over):
    """The stretches told, as pairs of begin and end; None if no stretches tell the order."""
    spans = begins_and_ends(over)
    # If any stretches tell the order, these do: so it's enough to try them alone.
    if do_tell(spans, over):
        return spans
    return None


def earliest_begin(over, begins, thing):
    """The lowest number at which the thing may begin, as stretches all as long ask for beside the others' begins."""
    length = len(over) - 1
    earliest = 0
    for other in range(1, len(over)):
        if over[other][thing]:
            earliest = max(earliest, begins[other] + length + 1)
        elif not over[thing][other]:
            earliest = max(earliest, begins[other] - length)
    return earliest


def begins_all_as_long(over):
    """Where each thing begins, in order, in stretches all as long; None if none tell the order."""
    begins = [0] * len(over)
    # Each is pushed on by a row of different others, or by itself without end: so they rest in as many rounds as there
    # are things, or never.
    for rounds in range(1, len(over)):
        later = [0] + [earliest_begin(over, begins, thing) for thing in range(1, len(over))]
        if later == begins:
            return begins[1:]
        begins = later
    return None


def first_two_and_two(over):
    """The first a, b, c, d that are two and two; None if there's no such four."""
    pairs = pairs_over(over)
    for a, b in pairs:
        for c, d in pairs:
            if not over[a][d] and not over[c][b]:
                return [a, b, c, d]
    return None


def are_open(over, x, y):
    return x != y and not over[x][y] and not over[y][x]


def is_open_to_all(over, thing, others):
    return all([are_open(over, thing, other) for other in others])


def first_three_and_one(over):
    """The first a, b, c, d that are three and one; None if there's no such four."""
    for a, b in pairs_over(over):
        for c in range(1, len(over)):
            for d in range(1, len(over)):
                if over[b][c] and is_open_to_all(over, d, [a, b, c]):
                    return [a, b, c, d]
    return None


def one_larger(over, crowds):
    """Each crowd with a higher thing more that's open to all of it; if the crowds lie in order, these do too."""
    larger = []
    for crowd in crowds:
        for thing in range(crowd[-1] + 1, len(over)):
            if is_open_to_all(over, thing, crowd):
                larger.append(crowd + [thing])
    return larger


def first_crowd(over):
    """As many things as can be of which any two are open, rising: of as many the first row."""
    crowds = [[thing] for thing in range(1, len(over))]
    larger = one_larger(over, crowds)
    while len(larger) > 0:
        crowds = larger
        larger = one_larger(over, crowds)
    return crowds[0]
