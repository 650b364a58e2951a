"""Sets that are copied, and rows of records that are sorted by merging."""

from reelrows.checks import is_whole
from reelrows.errors import BadNumber, BadRecord
from reelrows.sets import Draft, check_set, read_files, records_of, write_file

MOST_ROOM = 50
FEWEST_WAYS = 2
MOST_WAYS = 50
MOST_ROWS = 100000


def copied(tapes, other):
    """Make the other set new and put all files on it; tell how many."""
    check_set(tapes)
    check_set(other)
    # All files are read before the other set is made new: what cannot be read changes nothing there.
    drafts = [draft_of(pieces) for pieces in read_files(tapes.reels)]
    other.new()
    for draft in drafts:
        write_file(other.reels, read_files(other.reels), draft)
    return len(drafts)


def draft_of(pieces):
    """What is to be written of a file on another set."""
    name, numbers = pieces[0].head[1], pieces[0].head[3]
    return Draft(name, records_of(pieces), pieces[0].form, numbers[2:-1])


def runs_of(records, *, room):
    """The rows that rise in which the records go out of a room for so many."""
    if not is_row(records):
        raise BadRecord("no list of texts")
    if not is_whole(room, 1, MOST_ROOM):
        raise BadNumber("no room for records")
    runs = []
    held = records[:room]
    for place in range(len(records)):
        fitting = [record for record in held if runs and record >= runs[-1][-1]]
        if not fitting:
            runs.append([])
            fitting = held
        least = min(fitting)
        runs[-1].append(least)
        held.remove(least)
        held.extend(records[place + room:place + room + 1])
    return runs


def is_row(records):
    """Whether it is a list of texts."""
    return isinstance(records, list) and all(isinstance(record, str) for record in records)


def merged(rows):
    """One row that rises of rows that rise."""
    if not isinstance(rows, list) or not all(is_row(row) and is_rising(row) for row in rows):
        raise BadRecord("no list of rows that rise")
    left = rows
    while len(left) > 1:
        left = merged_pairs(left)
    return [record for row in left for record in row]


def is_rising(row):
    """Whether no text of a row is below the one ahead of it."""
    return all(record <= following for record, following in zip(row, row[1:]))


def merged_pairs(rows):
    """Half as many rows: of each two that stand side by side one."""
    # By pairs a record is looked at but a few times, however many rows there are.
    half = [merged_pair(rows[at], rows[at + 1]) for at in range(0, len(rows) - 1, 2)]
    if len(rows) % 2 == 1:
        half.append(rows[-1])
    return half


def merged_pair(earlier, later):
    """One row of two; of like records those of the earlier row go first."""
    row = []
    at = 0
    for record in later:
        while at < len(earlier) and earlier[at] <= record:
            row.append(earlier[at])
            at += 1
        row.append(record)
    return row + earlier[at:]


def passes(rows, *, ways):
    """How many turns it takes till one of so many rows is left."""
    if not is_whole(rows, 0, MOST_ROWS):
        raise BadNumber("no number of rows")
    check_ways(ways)
    turns = 0
    while rows > 1:
        rows = (rows + ways - 1) // ways
        turns += 1
    return turns


def check_ways(ways):
    """Refuse what is no number of rows that are merged into one."""
    if not is_whole(ways, FEWEST_WAYS, MOST_WAYS):
        raise BadNumber("no number of rows to merge into one")


def sorted_by(records, *, room, ways):
    """The sorted records, and how many turns their merging took."""
    rows = runs_of(records, room=room)
    check_ways(ways)
    turns = 0
    while len(rows) > 1:
        rows = [merged(rows[start:start + ways]) for start in range(0, len(rows), ways)]
        turns += 1
    return merged(rows), turns
