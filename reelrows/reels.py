"""A reel of tape: blocks and marks, and a place among them."""

from reelrows.checks import is_name, is_text, is_whole
from reelrows.errors import AtEnd, AtStart, BadName, BadNumber, NoRing, TooLong

SERIAL_SIGNS = 6
SHORTEST_REEL = 150
LONGEST_REEL = 5000
BLOCK_SIGNS = 99
BLOCK_GAP = 3
MARK_TAPE = 4
TAPE_BEYOND = 400
FARTHEST_SKIP = 5000


def check_skip(many):
    """Refuse what is no number of blocks or marks to skip."""
    if not is_whole(many, -FARTHEST_SKIP, FARTHEST_SKIP):
        raise BadNumber("no number of blocks or marks to skip")


def tape_of(row):
    """How much tape a block takes, or a mark, which is None."""
    if row is None:
        return MARK_TAPE
    return len(row) + BLOCK_GAP


class Reel:
    """A reel with its serial, its length and its ring."""

    def __init__(self, serial, *, length):
        if not is_name(serial, SERIAL_SIGNS):
            raise BadName("no serial of a reel")
        if not is_whole(length, SHORTEST_REEL, LONGEST_REEL):
            raise BadNumber("no length of a reel")
        self.serial = serial
        self.length = length
        self.ringed = True
        self.rows = []
        # For each place the tape ahead of it, so that it need not be summed up anew.
        self.tape = [0]
        self.place = 0

    def ring(self, on):
        """Put the ring in, or take it out."""
        self.ringed = on

    def write(self, block):
        """Write a block at the place; all behind is lost."""
        if not is_text(block, 1, BLOCK_SIGNS):
            raise BadName("no block")
        self.write_row(block)

    def write_mark(self):
        """Write a mark at the place; all behind is lost."""
        self.write_row(None)

    def write_row(self, row):
        """Write a block, or a mark, which is None."""
        if not self.ringed:
            raise NoRing("the reel has no ring")
        ahead = self.used() + tape_of(row)
        if ahead > self.length + TAPE_BEYOND:
            raise TooLong("the tape is at its end")
        self.cut(self.place)
        self.rows.append(row)
        self.tape.append(ahead)
        self.place += 1

    def cut(self, at):
        """Lose all that stands behind so many blocks and marks."""
        del self.rows[at:]
        del self.tape[at + 1:]

    def read(self):
        """The block behind the place, None of a mark; the place goes on."""
        if self.place == len(self.rows):
            raise AtEnd("nothing stands behind the place")
        self.place += 1
        return self.rows[self.place - 1]

    def read_back(self):
        """The block ahead of the place, None of a mark; the place goes back."""
        if self.place == 0:
            raise AtStart("nothing stands ahead of the place")
        self.place -= 1
        return self.rows[self.place]

    def rewind(self):
        """Go back to the beginning."""
        self.place = 0

    def skip(self, many):
        """Pass so many blocks, or one mark; tell how many blocks."""
        check_skip(many)
        passed = 0
        while passed < abs(many) and self.has_next(many):
            if self.read_next(many) is None:
                break
            passed += 1
        return passed

    def skip_marks(self, many):
        """Pass so many marks and the blocks between; tell how many marks."""
        check_skip(many)
        passed = 0
        while passed < abs(many) and self.has_next(many):
            if self.read_next(many) is None:
                passed += 1
        return passed

    def has_next(self, many):
        """Whether something stands where a skip of so many goes."""
        if many < 0:
            return self.place > 0
        return self.place < len(self.rows)

    def read_next(self, many):
        """Read in the direction of a skip of so many."""
        if many < 0:
            return self.read_back()
        return self.read()

    def at(self):
        """The place: how many blocks and marks lie ahead of it."""
        return self.place

    def used(self):
        """The tape ahead of the place."""
        return self.tape[self.place]

    def is_near_end(self):
        """Whether as much tape as the reel is long, or more, lies ahead of the place."""
        return self.used() >= self.length

    def content(self):
        """All blocks, None for marks."""
        return list(self.rows)

    def tear(self, at):
        """Lose all behind so many blocks and marks, and go to the beginning."""
        if not is_whole(at, 0, len(self.rows)):
            raise BadNumber("no number of blocks and marks that stand")
        self.cut(at)
        self.place = 0

    def called(self):
        """The serial."""
        return self.serial
