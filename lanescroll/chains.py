"""What hangs on what: cells of leaves that have come, told as pairs (number, cell)."""

from lanescroll.errors import NotKnown


def needs_of(leaves, pair):
    """The pairs that a cell needs, in its rule's order; none where its leaf hasn't come."""
    number, cell = pair
    if number not in leaves:
        return []
    return [(number - back, needed_cell) for back, needed_cell in leaves[number].rule(cell).needs()]


def traced(leaves, pairs):
    """A dict from each pair on which one of these hangs to one whose need it is, None for these themselves."""
    origins = {pair: None for pair in pairs}
    waiting = list(origins)
    # Each pair is looked at once, however many ways lead to it, and no call waits for another one.
    while waiting:
        pair = waiting.pop()
        for need in needs_of(leaves, pair):
            if need not in origins:
                origins[need] = pair
                waiting.append(need)
    return origins


def first_missing(leaves, origins):
    """The first of the traced pairs whose leaf hasn't come, or None."""
    for pair in origins:
        if pair[0] not in leaves:
            return pair
    return None


def way_to(origins, pair):
    """The way from a pair asked for, need by need, to a traced one."""
    way = []
    while pair is not None:
        way.append(pair)
        pair = origins[pair]
    return way[::-1]


def reckoned(leaves, origins):
    """A dict from each traced pair, rising, to its value; the leaves of all must have come."""
    values = {}
    # A need's number is less than the one that needs it, so its value is there in time.
    for pair in sorted(origins):
        number, cell = pair
        found = [values[need] for need in needs_of(leaves, pair)]
        values[pair] = leaves[number].rule(cell).value(found)
    return values


def known(leaves, number, cell):
    """The cell's value where each leaf on which it hangs has come, else None."""
    origins = traced(leaves, [(number, cell)])
    if first_missing(leaves, origins) is not None:
        return None
    return reckoned(leaves, origins)[(number, cell)]


def table(leaves, number, cell):
    """The rising list of the tuples (number, cell, value) of all cells on which the cell hangs."""
    origins = traced(leaves, [(number, cell)])
    missing = first_missing(leaves, origins)
    if missing is not None:
        raise NotKnown(way_to(origins, missing))
    values = reckoned(leaves, origins)
    return [(pair[0], pair[1], values[pair]) for pair in values]


def needed(leaves, wide, numbers):
    """The rising list of the numbers of all leaves on which the pictures of these numbers hang."""
    origins = traced(leaves, [(number, cell) for number in numbers for cell in range(wide)])
    return sorted({number for number, cell in origins})


def known_value(rule, number, pictures):
    """The value of a rule of the leaf of this number, of the pictures ahead; None where a need isn't known."""
    found = []
    for back, cell in rule.needs():
        if number - back not in pictures or pictures[number - back][cell] is None:
            return None
        found.append(pictures[number - back][cell])
    return rule.value(found)


def known_pictures(leaves, wide):
    """A dict from the numbers of the leaves to their pictures, None in the place of each cell that isn't known."""
    pictures = {}
    # Needs have lesser numbers, so each cell is found but once, however many others hang on it.
    for number in sorted(leaves):
        rules = [leaves[number].rule(cell) for cell in range(wide)]
        pictures[number] = tuple([known_value(rule, number, pictures) for rule in rules])
    return pictures


def first_begins(leaves, wide):
    """For each of a list of leaves the least begin of one of them with a cell that hangs on a cell of it."""
    begins = [[leaf.begin] * wide for leaf in leaves]
    # From the last leaf on: when a cell's turn comes, all that hang on it have had theirs.
    for number in range(len(leaves) - 1, -1, -1):
        for cell in range(wide):
            for back, needed_cell in leaves[number].rule(cell).needs():
                row = begins[number - back]
                row[needed_cell] = min(row[needed_cell], begins[number][cell])
    return [min(row) for row in begins]
