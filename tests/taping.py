"""Labels, tapes and sets by another way than the program's, for the tests of labels, sets and salvage."""

import re
import unittest

from reelrows.errors import ReelError
from reelrows.reels import Reel
from reelrows.sets import TapeSet
from tests.test_records import could_stand
from tests.test_reels import state

NUMBERS = "%04d%04d%04d%02d%05d%05d%06d"


def vol(serial, owner="NOBODY"):
    return "VOL1%-6s%-8s" % (serial, owner)


def hdr2(form):
    return "HDR2%s%03d%03d" % form


def label(kind, name, first, *numbers):
    return "%s%-8s%-6s" % (kind, name, first) + NUMBERS % numbers


def tape(rows):
    return sum(4 if row is None else len(row) + 3 for row in rows)


class File:
    """A file that is to be written, each block by itself."""

    def __init__(self, name, blocks, form=("F", 20, 20), told=(0, 0, 1, 0)):
        self.name = name
        self.blocks = blocks
        self.form = form
        self.told = told

    def records(self):
        return could_stand(self.blocks, *self.form)

    def given(self):
        """What put is given by names."""
        names = ("form", "block", "size", "generation", "version", "day", "ends")
        return dict(zip(names, self.form + self.told))

    def put_on(self, tapes):
        return tapes.put(self.name, self.records(), **self.given())


def twenties(many, start=0):
    """So many blocks of 20 signs that can be told from one another; each takes 23 of the tape."""
    return ["BLOCK%03d........####" % (start + number) for number in range(many)]


def written(lengths, files, owner="NOBODY", letter="R"):
    """What stands on reels R1, R2 .. when these files were put on them, or None if they do not suffice."""
    tapes = [[vol(letter + str(number + 1), owner), None, None] for number in range(len(lengths))]
    which = 0
    for number, file in enumerate(files, 1):
        tapes[which].pop()
        if number == 1:
            tapes[which].pop()
        if number > 99 or tape(tapes[which]) >= lengths[which] + 200:
            return None
        left, volume = list(file.blocks), 1
        while True:
            told = (file.name, letter + "1", volume, number) + file.told
            tapes[which] += [label("HDR1", *told, 0), hdr2(file.form), None]
            here = 0
            while left and tape(tapes[which]) < lengths[which]:
                tapes[which].append(left.pop(0))
                here += 1
            tapes[which] += [None, label("EOV1" if left else "EOF1", *told, here), None, None]
            if not left:
                break
            which, volume = which + 1, volume + 1
            if which == len(lengths):
                return None
            del tapes[which][1:]
    return tapes


def load(reel, rows, place=0):
    """Make these rows stand on a reel with its ring, and go to a place."""
    reel.tear(0)
    for row in rows:
        if row is None:
            reel.write_mark()
        else:
            reel.write(row)
    reel.rewind()
    for _ in range(place):
        reel.read()


def reels_of(lengths, letter="R"):
    return [Reel(letter + str(number + 1), length=length) for number, length in enumerate(lengths)]


def set_of(lengths, rows):
    """A set and its reels, on which these rows stand."""
    reels = reels_of(lengths)
    for reel, its in zip(reels, rows):
        load(reel, its)
    return TapeSet(reels), reels


def set_with(lengths, files, owner="NOBODY"):
    """A new set and its reels, on which these files were put."""
    reels = reels_of(lengths)
    tapes = TapeSet(reels)
    tapes.new(owner=owner)
    for file in files:
        file.put_on(tapes)
    return tapes, reels


def contents(reels):
    return [reel.content() for reel in reels]


def places(reels):
    return [reel.at() for reel in reels]


def states(reels):
    return [state(reel) for reel in reels]


def go_to(reels, wanted):
    for reel, place in zip(reels, wanted):
        reel.rewind()
        for _ in range(place):
            reel.read()


PIECE = re.compile(
    "HDR1([A-Z0-9 ]{8})([A-Z0-9 ]{6})([0-9]{4})([0-9]{4})([0-9]{4}[0-9]{2}[0-9]{5}[0-9]{5})000000\0"
    "HDR2([FVS])([0-9]{3})([0-9]{3})\0\1"
    "((?:[ -~]+\0)*)\1"
    "EO([FV])1\\1\\2\\3\\4\\5([0-9]{6})\0\1"
)


def is_padded(text):
    return re.fullmatch("[A-Z0-9]+ *", text) is not None


def is_form(form, block, size):
    return 5 <= block <= 60 and 1 <= size <= {"F": block, "V": block - 3, "S": 200}[form]


def as_signs(rows):
    return "".join("\1" if row is None else row + "\0" for row in rows)


def behind_own_label(serial, signs):
    found = re.match("VOL1%-6s([A-Z0-9 ]{8})\0" % serial, signs)
    return found.end() if found and is_padded(found[1]) else None


def read_by_signs(serials, rows):
    """The files of a set as (listed tuple, form, blocks, reels), or the name of the refusal."""
    signs = [as_signs(its) for its in rows]
    which, at = 0, behind_own_label(serials[0], signs[0])
    files = []
    while at is not None:
        if signs[which][at:at + 1] == "\1":
            return files
        before, blocks, on = None, [], []
        while True:
            found = PIECE.match(signs[which], at)
            if not found or not is_padded(found[1]) or found[2].rstrip() != serials[0] or not is_padded(found[2]):
                return "BadLabel"
            form = (found[6], int(found[7]), int(found[8]))
            here = found[9].split("\0")[:-1]
            if int(found[3]) != len(on) + 1 or int(found[4]) != len(files) + 1 or not is_form(*form):
                return "BadLabel"
            if int(found[11]) != len(here) or (before and before != (found[1], found[5], form)):
                return "BadLabel"
            before = (found[1], found[5], form)
            blocks += here
            on.append(which)
            at = found.end()
            if found[10] == "F":
                break
            which += 1
            if which == len(rows):
                return "NoReel"
            at = behind_own_label(serials[which], signs[which])
            if at is None:
                return "BadLabel"
        told = found[5]
        days = int(told[:4]), int(told[4:6]), int(told[6:11]), int(told[11:])
        files.append(((found[1].rstrip(), len(files) + 1) + days + (len(blocks), len(on)), form, blocks, on))
    return "BadLabel"


class TapeCase(unittest.TestCase):
    """Refusals that leave all reels as they were."""

    def assert_refused(self, refusal, reels, deed, *given, number=None, **named):
        before = states(reels)
        with self.assertRaises(ReelError) as caught:
            deed(*given, **named)
        self.assertEqual(type(caught.exception).__name__, refusal.__name__, (given, named))
        if number is not None:
            self.assertEqual(caught.exception.number, number)
            self.assertIs(type(caught.exception.number), type(number))
        self.assertEqual(states(reels), before)

    def assert_rows(self, reels, rows):
        for reel, its in zip(reels, rows):
            self.assertEqual(reel.content(), its, reel.called())
        self.assertEqual(len(reels), len(rows))
