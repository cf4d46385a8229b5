"""What the carrier does to the pieces of a way (point 212).

Each function changes a list of pieces, and does nothing if a number is not
within its bounds."""

MOST_PIECE = 65537


def is_there(pieces, index):
    """Return True if there is a piece with this index, otherwise False."""
    return 0 <= index < len(pieces)


def drop_piece(pieces, index):
    """Remove a piece."""
    if is_there(pieces, index):
        del pieces[index]


def repeat_piece(pieces, index):
    """Insert a copy of a piece right after it."""
    if is_there(pieces, index):
        pieces.insert(index, list(pieces[index]))


def move_piece(pieces, index, target):
    """Move a piece so that it has the index target."""
    if is_there(pieces, index) and is_there(pieces, target):
        pieces.insert(target, pieces.pop(index))


def split_piece(pieces, index, at):
    """Replace a piece by its first at bytes and the others."""
    if is_there(pieces, index) and 1 <= at < len(pieces[index]):
        piece = pieces[index]
        pieces[index:index + 1] = [piece[:at], piece[at:]]


def join_piece(pieces, index):
    """Replace a piece and the next one by one piece."""
    if is_there(pieces, index) and is_there(pieces, index + 1):
        joined = pieces[index] + pieces[index + 1]
        if len(joined) <= MOST_PIECE:
            pieces[index:index + 2] = [joined]


def change_piece(pieces, index, place, value):
    """Replace a byte of a piece."""
    if is_there(pieces, index) and 0 <= place < len(pieces[index]) and 0 <= value <= 255:
        pieces[index][place] = value


CHANGES = {"drop": drop_piece, "repeat": repeat_piece, "move": move_piece, "split": split_piece,
           "join": join_piece, "change": change_piece}
