"""The labels of reels, of files and of forms."""

from reelrows.checks import are_figures, is_name, is_text, is_whole
from reelrows.errors import BadLabel, BadName, BadNumber
from reelrows.records import check_form, is_form
from reelrows.reels import SERIAL_SIGNS

REEL_KIND = "VOL1"
FORM_KIND = "HDR2"
HEAD_KIND = "HDR1"
LAST_KIND = "EOF1"
NEXT_KIND = "EOV1"
KIND_SIGNS = 4
NAME_ROOM = 8
REEL_LABEL_SIGNS = 18
FILE_LABEL_SIGNS = 48
FORM_LABEL_SIGNS = 11

# The volume, the number, the generation, the version, the day made, the day of its end, the blocks.
FIGURES_EACH = (4, 4, 4, 2, 5, 5, 6)
GREATEST_EACH = (9999, 9999, 9999, 99, 99999, 99999, 999999)


def reel_label(serial, owner):
    """The label of a reel."""
    if not is_name(serial, SERIAL_SIGNS) or not is_name(owner, NAME_ROOM):
        raise BadName("no serial, or no owner's name")
    return REEL_KIND + serial.ljust(SERIAL_SIGNS) + owner.ljust(NAME_ROOM)


def file_label(kind, name, first, *, numbers=(0, 0, 0, 0, 0, 0, 0)):
    """The label of a file, at its head, at its end or at the end of a reel."""
    if not is_file_kind(kind):
        raise BadLabel("no kind of a file's label")
    if not is_name(name, NAME_ROOM) or not is_name(first, SERIAL_SIGNS):
        raise BadName("no name of a file, or no serial")
    if not are_label_numbers(numbers):
        raise BadNumber("no tuple of seven numbers that fit")
    figures = "".join(str(number).zfill(many) for number, many in zip(numbers, FIGURES_EACH))
    return kind + name.ljust(NAME_ROOM) + first.ljust(SERIAL_SIGNS) + figures


def form_label(form, block, size):
    """The label of a form."""
    check_form(form, block, size)
    return f"{FORM_KIND}{form}{block:03d}{size:03d}"


def is_file_kind(kind):
    """Whether it is a kind of a file's label."""
    return kind in (HEAD_KIND, LAST_KIND, NEXT_KIND)


def are_label_numbers(numbers):
    """Whether it is a tuple of the seven numbers of a file's label."""
    if not isinstance(numbers, tuple) or len(numbers) != len(GREATEST_EACH):
        return False
    return all(is_whole(number, 0, greatest) for number, greatest in zip(numbers, GREATEST_EACH))


def read_reel_label(text):
    """The serial and the owner that a reel's label tells."""
    if not is_text(text, REEL_LABEL_SIGNS, REEL_LABEL_SIGNS) or not text.startswith(REEL_KIND):
        raise BadLabel("no label of a reel")
    owner_start = KIND_SIGNS + SERIAL_SIGNS
    return name_in(text[KIND_SIGNS:owner_start]), name_in(text[owner_start:])


def read_file_label(text):
    """The kind, the name, the first serial and the seven numbers that a file's label tells."""
    if not is_text(text, FILE_LABEL_SIGNS, FILE_LABEL_SIGNS) or not is_file_kind(text[:KIND_SIGNS]):
        raise BadLabel("no label of a file")
    first_start = KIND_SIGNS + NAME_ROOM
    numbers_start = first_start + SERIAL_SIGNS
    name = name_in(text[KIND_SIGNS:first_start])
    first = name_in(text[first_start:numbers_start])
    return text[:KIND_SIGNS], name, first, numbers_in(text[numbers_start:])


def read_form_label(text):
    """The form, the longest block and the size that a form's label tells."""
    if not is_text(text, FORM_LABEL_SIGNS, FORM_LABEL_SIGNS) or not text.startswith(FORM_KIND):
        raise BadLabel("no label of a form")
    if not are_figures(text[5:]):
        raise BadLabel("no figures of a block and a size")
    form, block, size = text[4], int(text[5:8]), int(text[8:])
    if not is_form(form, block, size):
        raise BadLabel("no form, or no block and size of it")
    return form, block, size


def name_in(room):
    """The name with nothing but blanks behind it up to the end of its room."""
    name = room.rstrip(" ")
    if not is_name(name, len(room)):
        raise BadLabel("no name in a label")
    return name


def numbers_in(figures):
    """The seven numbers in the figures of a file's label."""
    if not are_figures(figures):
        raise BadLabel("no figures of the numbers")
    numbers = []
    start = 0
    for many in FIGURES_EACH:
        numbers.append(int(figures[start:start + many]))
        start += many
    return tuple(numbers)
