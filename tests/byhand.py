"""What the document tells of bytes, put together by hand: boxes, bodies, pieces and files."""

from fractions import Fraction

from tests.oracle import hung_on


def numbers_row(numbers):
    """The bytes of numbers, each as written."""
    row = []
    for number in numbers:
        figures = [number % 128]
        while number >= 128:
            number //= 128
            figures.insert(0, 128 + number % 128)
        row += figures
    return row


def box_by_hand(kind, body):
    """The row of a box, put together as point 26 tells it."""
    found = 1
    for byte in [kind] + body:
        found = (257 * found + byte) % 65521
    inner, noughts = [], 0
    for byte in numbers_row([len(body)]) + body + [found // 256, found % 256]:
        inner.append(byte)
        noughts = noughts + 1 if byte == 0 else 0
        if noughts == 2:
            inner.append(2)
            noughts = 0
    return [0, 0, 1, kind] + inner + [255]


def edits_numbers(edits):
    """The numbers of edits."""
    found = [len(edits)]
    for span, start, rate in edits:
        found += list(span) + ([0] if start is None else [1] + list(start) + list(rate))
    return found


def rule_numbers(rule):
    """The numbers of a rule as told."""
    return [{"plain": 0, "moved": 1, "mixed": 2}[rule[0]]] + list(rule[1:])


def leaf_numbers(leaf):
    """The numbers of a leaf as told."""
    kind, begin, span, held = leaf
    if kind == "still":
        return [1, begin, span, held]
    if kind == "full":
        return [0, begin, span, len(held)] + list(held)
    return [2, begin, span, len(held)] + [number for rule in held for number in rule_numbers(rule)]


def head_box(head):
    """The box of a head as told."""
    seal, wide, lanes = head
    found = [seal, wide, len(lanes)]
    for units, count, edits in lanes:
        found += [units, count] + edits_numbers(edits)
    return box_by_hand(1, numbers_row(found))


def piece_box(piece):
    """The box of a piece as told."""
    seal, lane, first, leaves = piece
    numbers = [number for leaf in leaves for number in leaf_numbers(leaf)]
    return box_by_hand(2, numbers_row([seal, lane, first, len(leaves)] + numbers))


def index_box(index):
    """The box of an index as told."""
    seal, rows = index
    return box_by_hand(3, numbers_row([seal, len(rows)] + [number for row in rows for number in row]))


def head_of(told):
    """The head of a film as told."""
    seal, wide, lanes = told
    return (seal, wide, [(units, len(leaves), edits) for units, leaves, edits in lanes])


def lane_dues(told, lane):
    """The moments from which on the leaves of a lane of a film as told are needed, by number, as Python's fractions."""
    units, leaves, edits = told[2][lane]
    numbered = dict(enumerate(leaves))
    found = [Fraction(leaf[1], units) for leaf in leaves]
    for number, leaf in enumerate(leaves):
        for cell in range(told[1]):
            for other, other_cell in hung_on(numbered, told[1], number, cell):
                found[other] = min(found[other], Fraction(leaf[1], units))
    return found


def pieces_by_hand(told, many):
    """All pieces of a film as told."""
    seal, wide, lanes = told
    found = []
    for lane, (units, leaves, edits) in enumerate(lanes):
        for first in range(0, len(leaves), many):
            found.append((seal, lane, first, leaves[first:first + many]))
    return found


def piece_dues(told, pieces):
    """The dues of pieces of a film as told."""
    dues = [lane_dues(told, lane) for lane in range(len(told[2]))]
    return [min(dues[lane][first:first + len(leaves)]) for seal, lane, first, leaves in pieces]


def ordered_by_hand(told, pieces):
    """Pieces of a film as told, sorted by their dues, then by lane, by first and by how many leaves they have."""
    rows = []
    for due, piece in zip(piece_dues(told, pieces), pieces):
        rows.append((due, piece[1], piece[2], len(piece[3]), piece))
    return [row[4] for row in sorted(rows, key=lambda row: row[:4])]


def file_of(head, pieces):
    """A row built as a file is, of a head and of pieces in the order in which they stand."""
    row, rows = head_box(head), []
    for piece in pieces:
        seal, lane, first, leaves = piece
        low = min(leaf[1] for leaf in leaves)
        high = max(leaf[1] + leaf[2] for leaf in leaves)
        rows.append((lane, first, len(leaves), low, high, len(row)))
        row = row + piece_box(piece)
    return row + head_box(head) + index_box((head[0], rows))


def file_by_hand(told, many):
    """The file of a film as told."""
    return file_of(head_of(told), ordered_by_hand(told, pieces_by_hand(told, many)))
