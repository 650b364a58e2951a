"""Sets of reels, and the files that stand on them."""

from reelrows.checks import is_name, is_whole
from reelrows.errors import BadLabel, BadName, BadNumber, BadReel, Kept, NoFile, NoReel, NoRing
from reelrows.labels import HEAD_KIND, LAST_KIND, NAME_ROOM, NEXT_KIND, are_label_numbers
from reelrows.labels import file_label, form_label, read_file_label, read_form_label, read_reel_label, reel_label
from reelrows.records import blocked, unblocked
from reelrows.reels import Reel, tape_of

MOST_REELS = 6
MOST_FILES = 99
BEGIN_BEYOND = 200
# The place behind a reel's own label, and the tape that the label takes, whoever the owner is.
BEHIND_LABEL = 1
LABEL_TAPE = 21
# Ahead of the blocks of a piece stand two labels and a mark; behind them a mark, a label and a mark.
HEAD_ROWS = 3
END_ROWS = 3
# Which of the seven numbers of a label is the day of the file's end.
END_DAY = 5


class Piece:
    """What stands of a file on one reel: it begins at a place, with a head label and a form."""

    def __init__(self, which, begins, head, form):
        self.which = which
        self.begins = begins
        self.head = head
        self.form = form
        self.blocks = []
        self.goes_on = False

    def behind_blocks(self):
        """The place behind its last block."""
        return self.begins + HEAD_ROWS + len(self.blocks)

    def behind_all(self):
        """The place behind the mark behind its end label, where a next file begins."""
        return self.behind_blocks() + END_ROWS

    def end_label(self, kind):
        """The label of this kind that is due behind its blocks."""
        name, first, numbers = self.head[1:]
        return file_label(kind, name, first, numbers=numbers[:-1] + (len(self.blocks),))

    def begun_rows(self):
        """Its blocks and what stands ahead of them."""
        kind, name, first, numbers = self.head
        return [file_label(kind, name, first, numbers=numbers), form_label(*self.form), None, *self.blocks]

    def all_rows(self):
        """All that is written of it, with both marks at the end."""
        kind = NEXT_KIND if self.goes_on else LAST_KIND
        return self.begun_rows() + [None, self.end_label(kind), None, None]


class Draft:
    """A file that is to be written: what its labels shall tell, and its blocks."""

    def __init__(self, name, records, form, told):
        if not is_name(name, NAME_ROOM):
            raise BadName("no name of a file")
        texts = blocked(records, form=form[0], block=form[1], size=form[2])
        if not are_label_numbers((1, 1) + told + (0,)):
            raise BadNumber("a number that the label does not hold")
        self.name = name
        self.form = form
        self.told = told
        self.blocks = texts


class TapeSet:
    """Some reels in order, with files on them."""

    def __init__(self, reels):
        if not are_reels(reels):
            raise BadReel("no reels of a set")
        self.reels = list(reels)

    def new(self, *, owner="NOBODY"):
        """Write its label and two marks on each reel; all else is lost."""
        if not is_name(owner, NAME_ROOM):
            raise BadName("no owner's name")
        check_rings(self.reels)
        for reel in self.reels:
            write_rows(reel, 0, [reel_label(reel.called(), owner), None, None])

    def count(self):
        """How many files there are."""
        return len(read_files(self.reels))

    def get(self, number):
        """The records of a file."""
        return records_of(file_of(read_files(self.reels), number))

    def get_back(self, number):
        """The records of a file from its end to its beginning."""
        pieces = file_of(read_files(self.reels), number)
        # What is refused moves no reel, so the reels go back only when all records are there.
        records = records_of(pieces)
        for piece in pieces:
            self.reels[piece.which].rewind()
        return records[::-1]

    def listed(self):
        """What the labels of all files tell."""
        return [told_of(pieces) for pieces in read_files(self.reels)]

    def put(self, name, records, *, form="V", block=40, size=30, generation=0, version=0, day=1, ends=0):
        """Write a file behind the last one; tell its number."""
        draft = Draft(name, records, (form, block, size), (generation, version, day, ends))
        check_rings(self.reels)
        return write_file(self.reels, read_files(self.reels), draft)

    def over(self, number, name, records, *, form="V", block=40, size=30, generation=0, version=0, day=1, ends=0):
        """Write a file in the place of one, which is lost with all behind it; tell its number."""
        draft = Draft(name, records, (form, block, size), (generation, version, day, ends))
        check_rings(self.reels)
        files = read_files(self.reels)
        file_of(files, number)
        check_kept(files, number, day)
        return write_file(self.reels, files[:number - 1], draft)

    def more(self, records):
        """Put records on behind those of the last file; tell how many blocks it has then."""
        files = read_files(self.reels)
        if not files:
            raise NoFile(0)
        pieces = files[-1]
        form, block, size = pieces[-1].form
        texts = blocked(records, form=form, block=block, size=size)
        check_rings(self.reels)
        place = pieces[-1].behind_blocks()
        added = spread(self.reels, pieces[-1], texts)
        write_pieces(self.reels, added, place)
        return len(blocks_of(pieces + added[1:]))


def are_reels(reels):
    """Whether they are reels that make a set."""
    if not isinstance(reels, (list, tuple)) or not 1 <= len(reels) <= MOST_REELS:
        return False
    if not all(isinstance(reel, Reel) for reel in reels):
        return False
    return len({reel.called() for reel in reels}) == len(reels)


def check_set(tapes):
    """Refuse what is no set."""
    if not isinstance(tapes, TapeSet):
        raise BadReel("no set of reels")


def check_rings(reels):
    """Refuse to write if a reel has no ring."""
    if not all(reel.ringed for reel in reels):
        raise NoRing("a reel of the set has no ring")


def row_at(rows, place):
    """What stands behind the place."""
    if place >= len(rows):
        raise BadLabel("nothing stands where a label or a mark is due")
    return rows[place]


def check_mark(rows, place):
    """Refuse what is no mark behind the place."""
    if row_at(rows, place) is not None:
        raise BadLabel("no mark where one is due")


def labelled_rows(reel):
    """All that stands on a reel, if its own label is the first of it."""
    rows = reel.content()
    serial = read_reel_label(row_at(rows, 0))[0]
    if serial != reel.called():
        raise BadLabel("the label of another reel")
    return rows


def read_files(reels):
    """All files of a set, each as the list of its pieces."""
    files = []
    which, begins = 0, BEHIND_LABEL
    # Where no next file begins a mark stands.
    while row_at(labelled_rows(reels[which]), begins) is not None:
        files.append(read_file(reels, which, begins, len(files) + 1))
        which, begins = place_behind(files)
    return files


def place_behind(files):
    """On which reel and at which place a file behind these ones begins."""
    if not files:
        return 0, BEHIND_LABEL
    last = files[-1][-1]
    return last.which, last.behind_all()


def read_file(reels, which, begins, number):
    """The pieces of the file with this number, which begins there."""
    pieces = []
    while not pieces or pieces[-1].goes_on:
        if which == len(reels):
            raise NoReel("a file goes on beyond the last reel")
        piece = begun_piece(reels, which, begins)
        check_piece(reels, piece, number, pieces)
        pieces.append(piece)
        which, begins = which + 1, BEHIND_LABEL
    return pieces


def begun_piece(reels, which, begins):
    """The piece whose head stands there, with its blocks up to a mark or the end."""
    rows = labelled_rows(reels[which])
    head = read_file_label(row_at(rows, begins))
    if head[0] != HEAD_KIND:
        raise BadLabel("no label of a file's head")
    form = read_form_label(row_at(rows, begins + 1))
    check_mark(rows, begins + 2)
    piece = Piece(which, begins, head, form)
    for row in rows[begins + HEAD_ROWS:]:
        if row is None:
            break
        piece.blocks.append(row)
    return piece


def check_piece(reels, piece, number, ahead):
    """Refuse a piece whose labels are not those that are due behind the pieces ahead."""
    if ahead:
        due = (next_head(ahead[-1].head), ahead[-1].form)
    else:
        due = (first_head(reels, piece.head[1], number, piece.head[3][2:-1]), piece.form)
    if (piece.head, piece.form) != due:
        raise BadLabel("not the head that is due")
    rows = reels[piece.which].content()
    place = piece.behind_blocks()
    check_mark(rows, place)
    label = row_at(rows, place + 1)
    if label not in (piece.end_label(LAST_KIND), piece.end_label(NEXT_KIND)):
        raise BadLabel("not the end label that is due")
    check_mark(rows, place + 2)
    piece.goes_on = label == piece.end_label(NEXT_KIND)


def first_head(reels, name, number, told):
    """What the head label of a file tells on its first reel."""
    return HEAD_KIND, name, reels[0].called(), (1, number) + told + (0,)


def next_head(head):
    """What the head label of a file tells on its next reel."""
    kind, name, first, numbers = head
    return kind, name, first, (numbers[0] + 1,) + numbers[1:]


def file_of(files, number):
    """The pieces of the file with this number."""
    if not is_whole(number, 1, len(files)):
        raise NoFile(number)
    return files[number - 1]


def blocks_of(pieces):
    """The blocks of all pieces."""
    return [text for piece in pieces for text in piece.blocks]


def records_of(pieces):
    """The records of a file."""
    form, block, size = pieces[0].form
    return unblocked(blocks_of(pieces), form=form, block=block, size=size)


def told_of(pieces):
    """What is listed of a file."""
    name, numbers = pieces[0].head[1], pieces[0].head[3]
    return (name,) + numbers[1:-1] + (len(blocks_of(pieces)), len(pieces))


def check_kept(files, number, day):
    """Refuse to lose a file from this number on that ends behind the day."""
    for lost in range(number, len(files) + 1):
        if files[lost - 1][0].head[3][END_DAY] > day:
            raise Kept(lost)


def write_file(reels, ahead, draft):
    """Write a file behind those ahead; tell its number."""
    number = len(ahead) + 1
    which, begins = place_behind(ahead)
    used = tape_of_all(reels[which].content()[:begins])
    if number > MOST_FILES or used >= reels[which].length + BEGIN_BEYOND:
        raise NoReel("no number, or no tape, for one more file")
    piece = Piece(which, begins, first_head(reels, draft.name, number, draft.told), draft.form)
    write_pieces(reels, spread(reels, piece, draft.blocks), begins)
    return number


def tape_of_all(rows):
    """How much tape these blocks and marks take."""
    return sum(tape_of(row) for row in rows)


def spread(reels, piece, texts):
    """The pieces in which the blocks come to stand: this one, and those on the next reels."""
    pieces = [piece]
    used = tape_of_all(reels[piece.which].content()[:piece.begins] + piece.begun_rows())
    for text in texts:
        if used >= reels[piece.which].length:
            piece.goes_on = True
            piece = Piece(piece.which + 1, BEHIND_LABEL, next_head(piece.head), piece.form)
            if piece.which == len(reels):
                raise NoReel("the reels do not suffice")
            pieces.append(piece)
            used = LABEL_TAPE + tape_of_all(piece.begun_rows())
        piece.blocks.append(text)
        used += tape_of(text)
    return pieces


def write_pieces(reels, pieces, place):
    """Write pieces, of the first one what stands behind the place."""
    # All next reels are looked at before the first one is written: what is refused changes nothing.
    for piece in pieces[1:]:
        labelled_rows(reels[piece.which])
    for piece in pieces:
        rows = piece.all_rows()
        write_rows(reels[piece.which], place, rows[place - piece.begins:])
        place = BEHIND_LABEL


def write_rows(reel, place, rows):
    """Write blocks and marks from a place on, and go back to the beginning."""
    reel.rewind()
    while reel.at() < place:
        reel.read()
    for row in rows:
        reel.write_row(row)
    reel.rewind()
