"""What can still be read of a set with torn reels."""

from reelrows.errors import BadBlock, BadLabel, NoReel
from reelrows.records import read_block
from reelrows.sets import BEHIND_LABEL, begun_piece, blocks_of, check_piece, check_set, place_behind, read_files


def salvage(tapes):
    """Of each file its name, its whole records, and whether it is whole; none behind one that is not."""
    check_set(tapes)
    told = []
    files = []
    is_whole = True
    while is_whole:
        which, begins = place_behind(files)
        pieces, fits = pieces_left(tapes.reels, which, begins, len(files) + 1)
        if not pieces:
            break
        records, is_read = records_left(pieces)
        is_whole = fits and is_read
        told.append((pieces[0].head[1], records, is_whole))
        files.append(pieces)
    return told


def is_whole_set(tapes):
    """Whether all files of a set can be read."""
    check_set(tapes)
    try:
        files = read_files(tapes.reels)
    except (BadLabel, NoReel):
        return False
    return all(records_left(pieces)[1] for pieces in files)


def pieces_left(reels, which, begins, number):
    """The pieces of a file that can be read, and whether they are the whole file."""
    pieces = []
    while which < len(reels):
        try:
            piece = begun_piece(reels, which, begins)
        except BadLabel:
            return pieces, False
        if pieces and not is_alike(piece, pieces[0]):
            return pieces, False
        ahead = list(pieces)
        pieces.append(piece)
        try:
            check_piece(reels, piece, number, ahead)
        except BadLabel:
            return pieces, False
        if not piece.goes_on:
            return pieces, True
        which, begins = which + 1, BEHIND_LABEL
    return pieces, False


def is_alike(piece, first):
    """Whether a piece has the name and the form of the first one."""
    return piece.head[1] == first.head[1] and piece.form == first.form


def records_left(pieces):
    """The whole records up to the first block that is none of the form, and whether that is all."""
    form, block, size = pieces[0].form
    records = []
    begun = None
    for text in blocks_of(pieces):
        if len(text) > block:
            return records, False
        try:
            ended, begun = read_block(text, begun, form, size)
        except BadBlock:
            return records, False
        records.extend(ended)
    return records, begun is None
