"""Chains: the generations of the files of one name."""

from reelrows.checks import is_name, is_whole
from reelrows.errors import BadLabel, BadName, BadNumber, NoFile, NoReel
from reelrows.labels import NAME_ROOM
from reelrows.sets import check_set

MOST_KEPT = 99


class Chain:
    """The files of one name of a set that have a generation above 0."""

    def __init__(self, tapes, name, *, keep=3):
        check_set(tapes)
        if not is_name(name, NAME_ROOM):
            raise BadName("no name of a file")
        if not is_whole(keep, 1, MOST_KEPT):
            raise BadNumber("no number of generations to keep")
        self.tapes = tapes
        self.name = name
        self.keep = keep

    def members(self):
        """Of each generation its number, its version and the number of its file, rising."""
        last = {}
        for row in self.tapes.listed():
            name, number, generation, version = row[:4]
            if name != self.name or generation == 0:
                continue
            if generation not in last or version >= last[generation][1]:
                last[generation] = (generation, version, number)
        return sorted(last.values())

    def kept(self):
        """The members of the newest generations, as many as are kept."""
        return self.members()[-self.keep:]

    def newest(self):
        """The newest generation, 0 without any."""
        members = self.members()
        return members[-1][0] if members else 0

    def add(self, records, *, day=1, ends=0):
        """Put the next generation; tell which one it is."""
        self.check_readable(records, day, ends)
        generation = self.newest() + 1
        self.tapes.put(self.name, records, generation=generation, day=day, ends=ends)
        return generation

    def again(self, records, *, day=1, ends=0):
        """Put the newest generation with its next version; tell which version it is."""
        self.check_readable(records, day, ends)
        members = self.members()
        if not members:
            raise NoFile(0)
        generation, version = members[-1][0], members[-1][1] + 1
        self.tapes.put(self.name, records, generation=generation, version=version, day=day, ends=ends)
        return version

    def check_readable(self, records, day, ends):
        """Refuse to put records on a set that cannot be read."""
        try:
            self.tapes.count()
        except (BadLabel, NoReel):
            # Records, days and rings are refused ahead of labels: put does not write here, it tells what comes first.
            self.tapes.put(self.name, records, day=day, ends=ends)

    def get(self, back=0):
        """The records of the kept generation that is so many ahead of the newest one."""
        kept = self.kept()
        if not is_whole(back, 0, len(kept) - 1):
            raise NoFile(back)
        return self.tapes.get(kept[-1 - back][2])

    def words(self):
        """The words of the kept ones, the newest last."""
        return [f"{self.name}.G{generation:04d}V{version:02d}" for generation, version, number in self.kept()]
