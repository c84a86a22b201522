"""Files: a film as one row of bytes."""

from lanescroll.bodies import HEAD, INDEX, PIECE, head_body, head_in, index_body, index_in, piece_body
from lanescroll.boxes import box, boxes_in
from lanescroll.errors import NoFile, NoFilm, NoHead, NotWhole
from lanescroll.gather import Gather
from lanescroll.pieces import ordered, pieces, stretch_units
from lanescroll.wholes import is_bytes


def head_of(film):
    """The film's head."""
    lanes = [(film.units(lane), film.many(lane), film.edits(lane)) for lane in range(len(film))]
    return (film.seal, film.wide, lanes)


def index_row(told, place):
    """The row of an index for a piece whose box begins at a place."""
    seal, lane, first, leaves = told
    low, high = stretch_units(leaves)
    return (lane, first, len(leaves), low, high, place)


def write(film, many=8):
    """The film's file, by pieces of many leaves."""
    told = ordered(film, pieces(film, many))
    head = box(HEAD, head_body(head_of(film)))
    row = list(head)
    index = []
    for one in told:
        index.append(index_row(one, len(row)))
        row.extend(box(PIECE, piece_body(one)))
    row.extend(head)
    row.extend(box(INDEX, index_body((film.seal, index))))
    return row


def gathered(seal, boxes):
    """The film of a seal of which all has come in these boxes, None where there is none."""
    gather = Gather(seal)
    gather.take_boxes(boxes)
    try:
        return gather.film()
    except (NoHead, NotWhole, NoFilm):
        return None


def film_in(boxes):
    """The pair of the film whose file may have these boxes, and of how many leaves its largest piece has, or None."""
    if not boxes:
        return None
    head = head_in(boxes[0][1], boxes[0][2])
    index = index_in(boxes[-1][1], boxes[-1][2])
    if head is None or index is None:
        return None
    film = gathered(head[0], boxes)
    return None if film is None else (film, max([row[2] for row in index[1]], default=1))


def read(row):
    """The film whose file the row is."""
    if not is_bytes(row):
        raise NoFile("this is no row of bytes")
    found = film_in(boxes_in(row))
    # What was found may be a film's though the row is not its file: torn, or put together otherwise.
    if found is None or write(found[0], found[1]) != row:
        raise NoFile("this is no film's file")
    return found[0]
