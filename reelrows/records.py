"""Records put into blocks, and read from them again."""

from reelrows.checks import are_figures, are_texts, is_text, is_whole
from reelrows.errors import BadBlock, BadForm, BadRecord

SHORTEST_BLOCK = 5
LONGEST_BLOCK = 60
LARGEST_SIZE = 200
LENGTH_FIGURES = 3
PART_HEAD = 4
PART_ROOM = 5

WHOLE = "0"
FIRST = "1"
LAST = "2"
BETWEEN = "3"


def blocked(records, *, form, block, size):
    """The blocks in which these records stand."""
    check_form(form, block, size)
    if not are_records(records, form, size):
        raise BadRecord("no list of records that fit")
    blocks = []
    for record in records:
        if form == "S":
            put_parts(blocks, record, block)
        elif form == "V":
            put_entry(blocks, with_length(record), block)
        else:
            put_entry(blocks, record, block)
    return blocks


def unblocked(blocks, *, form, block, size):
    """The records that stand in these blocks."""
    check_form(form, block, size)
    if not are_texts(blocks, 1, block):
        raise BadBlock("no list of blocks")
    records = []
    begun = None
    for text in blocks:
        ended, begun = read_block(text, begun, form, size)
        records.extend(ended)
    if begun is not None:
        raise BadBlock("a record without its last part")
    return records


def read_block(text, begun, form, size):
    """The records that end in a block, and what it leaves of a begun one; None is none begun."""
    if form == "S":
        return joined_records(text, begun, size)
    if form == "V":
        return records_with_lengths(text, size), None
    return records_of_size(text, size), None


def check_form(form, block, size):
    """Refuse what is no form with its longest block and its size."""
    if not is_form(form, block, size):
        raise BadForm("no form, or no block and size of it")


def is_form(form, block, size):
    """Whether it is a form, with a block and a size that go with it."""
    if not is_text(form, 1, 1) or form not in "FVS":
        return False
    if not is_whole(block, SHORTEST_BLOCK, LONGEST_BLOCK):
        return False
    return is_whole(size, 1, largest_size(form, block))


def largest_size(form, block):
    """How long records may be in a form with such blocks."""
    if form == "F":
        return block
    if form == "V":
        return block - LENGTH_FIGURES
    return LARGEST_SIZE


def are_records(records, form, size):
    """Whether it is a list of records that fit."""
    if form == "F":
        return are_texts(records, size, size)
    return are_texts(records, 0, size)


def with_length(text):
    """A text with three figures of its length ahead."""
    return f"{len(text):03d}{text}"


def put_entry(blocks, entry, block):
    """Put an entry in the last block, or in a new one if it has no room there."""
    if not blocks or len(blocks[-1]) + len(entry) > block:
        blocks.append("")
    blocks[-1] += entry


def put_parts(blocks, record, block):
    """Put a record in the last block, and in as many new ones as its parts need."""
    start = 0
    is_left = True
    while is_left:
        if not blocks or block - len(blocks[-1]) < PART_ROOM:
            blocks.append("")
        end = min(start + block - len(blocks[-1]) - PART_HEAD, len(record))
        is_left = end < len(record)
        blocks[-1] += part_sign(start == 0, not is_left) + with_length(record[start:end])
        start = end


def part_sign(is_first, is_last):
    """The sign of a part by where it stands in its record."""
    if is_first:
        return WHOLE if is_last else FIRST
    return LAST if is_last else BETWEEN


def records_of_size(text, size):
    """The records of a block of the form "F"."""
    if len(text) % size != 0:
        raise BadBlock("not just records of the size")
    return [text[start:start + size] for start in range(0, len(text), size)]


def records_with_lengths(text, size):
    """The records of a block of the form "V"."""
    records = []
    start = 0
    while start < len(text):
        record = text_with_length(text, start)
        check_size(record, size)
        records.append(record)
        start += LENGTH_FIGURES + len(record)
    return records


def text_with_length(text, start):
    """What stands behind the three figures of its length."""
    figures = text[start:start + LENGTH_FIGURES]
    if len(figures) < LENGTH_FIGURES or not are_figures(figures):
        raise BadBlock("no three figures of a length")
    start += LENGTH_FIGURES
    end = start + int(figures)
    if end > len(text):
        raise BadBlock("less than its length tells")
    return text[start:end]


def check_size(record, size):
    """Refuse a record that is longer than the size."""
    if len(record) > size:
        raise BadBlock("a record is longer than the size")


def joined_records(text, begun, size):
    """The records that end in a block of the form "S", and what it leaves of a begun one."""
    records = []
    for sign, part in parts_of(text):
        # A first part or a whole record is due just where none is begun.
        if (sign in (WHOLE, FIRST)) != (begun is None):
            raise BadBlock("a part that is not in its turn")
        begun = part if begun is None else begun + part
        check_size(begun, size)
        if sign in (WHOLE, LAST):
            records.append(begun)
            begun = None
    return records, begun


def parts_of(text):
    """The signs and texts of all parts in a block of the form "S"."""
    parts = []
    start = 0
    while start < len(text):
        sign = text[start]
        if sign not in (WHOLE, FIRST, LAST, BETWEEN):
            raise BadBlock("no sign of a part")
        part = text_with_length(text, start + 1)
        parts.append((sign, part))
        start += PART_HEAD + len(part)
    return parts
