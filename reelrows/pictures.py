"""What stands on reels, and how much tape it takes."""

from reelrows.errors import BadReel
from reelrows.reels import Reel
from reelrows.sets import check_set, tape_of_all


def picture(reel):
    """A text for each mark and block of a reel."""
    if not isinstance(reel, Reel):
        raise BadReel("no reel")
    return [shown(place, row) for place, row in enumerate(reel.content())]


def shown(place, row):
    """The text for what stands behind the place."""
    if row is None:
        return f"{place}: mark"
    return f"{place}: {len(row)} {row}"


def tape_used(tapes):
    """Of each reel of a set its serial, the tape that all on it takes, and its length."""
    check_set(tapes)
    return [(reel.called(), tape_of_all(reel.content()), reel.length) for reel in tapes.reels]
