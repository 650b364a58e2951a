"""What is promised over the whole program: point [1] of the document, for each entry of its interface.

Each entry is called as it should be, with each argument in turn of a wrong kind, and with two of them; on a set as it
should be, on one that is torn, on one that lost a ring and on one with both. What each of these faults is refused with
is known from the calls with this fault alone, so of two faults the refusal must be the one that is named first.
"""

import copy
import itertools
import unittest

from reelrows import errors
from reelrows.chains import Chain
from reelrows.labels import file_label, form_label, read_file_label, read_form_label, read_reel_label, reel_label
from reelrows.merges import copied, merged, passes, runs_of, sorted_by
from reelrows.pictures import picture, tape_used
from reelrows.records import blocked, unblocked
from reelrows.reels import Reel
from reelrows.salvage import is_whole_set, salvage
from reelrows.sets import TapeSet
from tests.taping import File, go_to, hdr2, label, places, reels_of, set_with, states, twenties, vol
from tests.test_chains import NO_SETS
from tests.test_labels import NO_NAMES
from tests.wrong import NO_LISTS, NO_TEXTS, NO_WHOLE_NUMBERS

READ = "BadLabel NoReel"
PUT = "BadName BadForm BadRecord BadNumber NoRing BadLabel NoReel NoFile Kept"
NO_NUMBERS = NO_WHOLE_NUMBERS + [-10 ** 5000, 10 ** 5000]
NO_BACK = NO_WHOLE_NUMBERS + [-1, 99]
NO_FORMS = ["", "f", "FV", "X"] + NO_TEXTS
NO_RECORDS = NO_LISTS + [["X" * 201]] + [["A", thing] for thing in NO_TEXTS]
NO_TEXT_LISTS = NO_LISTS + [["A", thing] for thing in NO_TEXTS]
NO_ROWS = [thing for thing in NO_LISTS if thing != []] + [[["A"], thing] for thing in NO_LISTS] + [[["B", "A"]], [["A", 1]]]
NO_BLOCKS = NO_LISTS + [[""], ["X" * 61]] + [["001A", thing] for thing in NO_TEXTS]
NO_KINDS = ["", "HDR", "HDR2", "hdr1", "VOL1"] + NO_TEXTS
NO_LABELS = ["", "VOL1", "HDR1" + " " * 44, "HDR2X010010"] + NO_TEXTS
NO_SEVEN = [
    None, 0, "0000000", [0] * 7, (0,) * 6, (0,) * 8, (0, 0, 0, 0, 0, 0, True), (False,) + (0,) * 6,
    (0, 0, 0, 0, 0, 0, "0"), (0, 0, 0, 0, 0, 0, None), (0, 0, 0, 100, 0, 0, 0), (-1,) + (0,) * 6, {}, object(),
]
NO_REELS = NO_LISTS + NO_TEXTS + [TapeSet(reels_of([500])), reels_of([500])]
NO_REEL_LISTS = [thing for thing in NO_SETS if not isinstance(thing, (list, tuple))] + [
    [], (), [None], ["R1"], [1], reels_of([500]) + [None], reels_of([500]) * 2, reels_of([500] * 7),
    reels_of([500]) + reels_of([600]), [reels_of([500])],
]


class World:
    """Two sets and a chain; all places are anywhere; one reel lost its ring, or the first set is torn, or neither."""

    def __init__(self, torn=False, ringless=False):
        self.tapes, reels = set_with([400, 400, 5000], [
            File("A", twenties(2), told=(1, 0, 1, 0)), File("B", ["002AB000", "001C"], ("V", 40, 30)),
            File("A", twenties(12), told=(2, 0, 1, 0)), File("LAST", ["002XY"], ("V", 40, 30), (3, 1, 4, 5)),
        ])
        others = reels_of([5000, 600], "S")
        self.other = TapeSet(others)
        self.other.new()
        self.other.put("OLD", ["X"])
        self.chain = Chain(self.tapes, "A")
        self.reels = reels + others
        go_to(self.reels, [5, 3, 2, 4, 1])
        self.bare = Reel("BARE", length=200)
        self.bare.write("ONE")
        self.bare.write_mark()
        self.bare.write("TWO")
        self.bare.read_back()
        self.reels.append(self.bare)
        if torn:
            reels[0].tear(8)
            go_to(reels[:1], [5])
        if ringless:
            for reel in (reels[2], others[1], self.bare):
                reel.ring(False)


class Entry:
    """An entry of the interface: what is called, what is handed in, what it is refused with, in order."""

    def __init__(self, name, deed, given, order, does=""):
        self.name = name
        self.deed = deed
        self.given = given
        self.order = order.split()
        # What it may do to reels: "writes", "moves" or nothing.
        self.does = does

    def call(self, world, wrong):
        """What it tells, with wrong things in some places of its arguments; what was handed in is kept."""
        by_place, by_name = [], {}
        for place, (name, good, _) in enumerate(self.given):
            # A set, a reel or a chain of the world is handed in by a function that finds it there.
            thing = wrong[place] if place in wrong else good(world) if callable(good) else copy.deepcopy(good)
            if name:
                by_name[name] = thing
            else:
                by_place.append(thing)
        self.handed = by_place + list(by_name.values())
        return self.deed(world)(*by_place, **by_name)


def bare(name, *given, order="", does=""):
    return Entry("Reel." + name, lambda world: getattr(world.bare, name), given, order, does)


def tapes(name, *given, order=READ, does=""):
    return Entry("TapeSet." + name, lambda world: getattr(world.tapes, name), given, order, does)


def chain(name, *given, order=READ, does=""):
    return Entry("Chain." + name, lambda world: getattr(world.chain, name), given, order, does)


def plain(deed, *given, order="", does=""):
    return Entry(deed.__name__, lambda world: deed, given, order, does)


def first_set(world):
    return world.tapes


def second_set(world):
    return world.other


FORM = [("form", "V", NO_FORMS), ("block", 40, NO_NUMBERS), ("size", 30, NO_NUMBERS)]
TOLD = [(name, 3, NO_NUMBERS) for name in ("generation", "version", "day", "ends")]
DAYS = [("day", 3, NO_NUMBERS), ("ends", 3, NO_NUMBERS)]
FILE = [(None, "NEW", NO_NAMES), (None, ["ONE", "", "TWO"], NO_RECORDS)]
BY_ROOM = [(None, ["C", "B", "A"], NO_TEXT_LISTS), ("room", 2, NO_NUMBERS)]
SEVEN = (1, 2, 3, 4, 5, 6, 7)

ENTRIES = [
    plain(Reel, (None, "A1", NO_NAMES), ("length", 150, NO_NUMBERS), order="BadName BadNumber"),
    bare("ring", (None, True, []), does="writes"),
    bare("write", (None, "BLOCK", ["", "X" * 100] + NO_TEXTS), order="BadName NoRing TooLong", does="writes"),
    bare("write_mark", order="NoRing TooLong", does="writes"),
    bare("read", order="AtEnd", does="moves"),
    bare("read_back", order="AtStart", does="moves"),
    bare("rewind", does="moves"),
    bare("skip", (None, 1, NO_NUMBERS), order="BadNumber", does="moves"),
    bare("skip_marks", (None, -1, NO_NUMBERS), order="BadNumber", does="moves"),
    bare("at"), bare("used"), bare("is_near_end"), bare("content"), bare("called"),
    bare("tear", (None, 1, NO_NUMBERS), order="BadNumber", does="writes"),
    plain(blocked, (None, ["ONE", "", "TWO"], NO_RECORDS), *FORM, order="BadForm BadRecord"),
    plain(unblocked, (None, ["003ONE000", "003TWO"], NO_BLOCKS), *FORM, order="BadForm BadBlock"),
    plain(reel_label, (None, "R1", NO_NAMES), (None, "ME", NO_NAMES), order="BadName"),
    plain(
        file_label, (None, "EOF1", NO_KINDS), (None, "A", NO_NAMES), (None, "R1", NO_NAMES), ("numbers", SEVEN, NO_SEVEN),
        order="BadLabel BadName BadNumber"),
    plain(form_label, (None, "V", NO_FORMS), (None, 40, NO_NUMBERS), (None, 30, NO_NUMBERS), order="BadForm"),
    plain(read_reel_label, (None, vol("R1"), NO_LABELS), order="BadLabel"),
    plain(read_file_label, (None, label("HDR1", "A", "R1", *SEVEN), NO_LABELS), order="BadLabel"),
    plain(read_form_label, (None, hdr2(("S", 5, 200)), NO_LABELS), order="BadLabel"),
    plain(TapeSet, (None, lambda world: world.reels[:3], NO_REEL_LISTS), order="BadReel"),
    tapes("new", ("owner", "ME", NO_NAMES), order="BadName NoRing", does="writes"),
    tapes("count"), tapes("listed"),
    tapes("get", (None, 2, NO_NUMBERS + [0, 5]), order=READ + " NoFile BadBlock"),
    tapes("get_back", (None, 3, NO_NUMBERS + [0, 5]), order=READ + " NoFile BadBlock", does="moves"),
    tapes("put", *FILE, *FORM, *TOLD, order=PUT, does="writes"),
    tapes("over", (None, 2, NO_NUMBERS + [0, 5]), *FILE, *FORM, *TOLD[:2], ("day", 9, NO_NUMBERS), TOLD[3],
          order=PUT, does="writes"),
    tapes("more", (None, ["X"], NO_RECORDS), order=READ + " NoFile BadRecord NoRing", does="writes"),
    plain(salvage, (None, first_set, NO_SETS), order="BadReel"),
    plain(is_whole_set, (None, first_set, NO_SETS), order="BadReel"),
    plain(Chain, (None, first_set, NO_SETS), (None, "A", NO_NAMES), ("keep", 2, NO_NUMBERS + [0, 100]),
          order="BadReel BadName BadNumber"),
    chain("members"), chain("kept"), chain("newest"), chain("words"),
    chain("add", FILE[1], *DAYS, order=PUT, does="writes"),
    chain("again", FILE[1], *DAYS, order="NoFile " + PUT, does="writes"),
    chain("get", (None, 1, NO_BACK), order=READ + " NoFile BadBlock"),
    plain(copied, (None, first_set, NO_SETS), (None, second_set, NO_SETS), order="BadReel BadLabel NoReel BadBlock NoRing",
          does="writes"),
    plain(runs_of, *BY_ROOM, order="BadRecord BadNumber"),
    plain(merged, (None, [["A", "C"], [], ["B"]], NO_ROWS), order="BadRecord"),
    plain(passes, (None, 5, NO_NUMBERS + [100001]), ("ways", 2, NO_NUMBERS + [1, 51]), order="BadNumber"),
    plain(sorted_by, *BY_ROOM, ("ways", 2, NO_NUMBERS), order="BadRecord BadNumber"),
    plain(picture, (None, lambda world: world.bare, NO_REELS), order="BadReel"),
    plain(tape_used, (None, first_set, NO_SETS), order="BadReel"),
]

# For pairs of faults a few wrong things of each argument suffice.
FEW = 3


def worlds():
    """The faults of a world: none, torn, without a ring, both."""
    return [{"torn": torn, "ringless": ringless} for torn in (False, True) for ringless in (False, True)]


def spoil(told):
    """Change all lists in what is told."""
    if isinstance(told, (list, tuple)):
        for thing in told:
            spoil(thing)
    if isinstance(told, list):
        told.append("SPOILT")
        told[0] = None


class TestWhole(unittest.TestCase):
    def refusal(self, entry, wrong, **faults):
        """The name of its refusal, or None; nothing is changed then."""
        world = World(**faults)
        before = states(world.reels)
        try:
            entry.call(world, wrong)
        except errors.ReelError as refused:
            self.assertEqual(states(world.reels), before, (entry.name, wrong, faults))
            return type(refused).__name__
        return None

    def test_each_entry_as_it_should_be(self):
        for entry in ENTRIES:
            self.assertIsNone(self.refusal(entry, {}), entry.name)

    def test_all_names_are_here(self):
        listed = {entry.name for entry in ENTRIES}
        for kind, name in ((Reel, "Reel"), (TapeSet, "TapeSet"), (Chain, "Chain")):
            self.assertIn(name, listed)
            self.assertTrue(all(hasattr(kind, its.split(".")[1]) for its in listed if its.startswith(name + ".")))
        self.assertEqual(len(listed), len(ENTRIES))
        self.assertEqual(len(listed), 1 + 14 + 2 + 6 + 1 + 8 + 2 + 1 + 7 + 5 + 2)

    def test_each_wrong_thing(self):
        for entry in ENTRIES:
            for place, (_, _, wrongs) in enumerate(entry.given):
                for thing in wrongs:
                    self.assertIn(self.refusal(entry, {place: thing}), entry.order, (entry.name, place, thing))

    def test_of_several_faults_the_refusal_named_first(self):
        for entry in ENTRIES:
            alone = {}
            for place, (_, _, wrongs) in enumerate(entry.given):
                for which in range(min(FEW, len(wrongs))):
                    alone[place, which] = self.refusal(entry, {place: wrongs[which]})
            by_world = [self.refusal(entry, {}, **faults) for faults in worlds()[1:3]]
            for faults, (one, other) in itertools.product(worlds(), self.pairs(alone)):
                wrong = {place: entry.given[place][2][which] for place, which in (one, other)}
                due = {alone[one], alone[other]}
                due |= {by_world[1]} if faults["torn"] else set()
                due |= {by_world[0]} if faults["ringless"] else set()
                due.discard(None)
                found = self.refusal(entry, wrong, **faults)
                wanted = min(due, key=entry.order.index)
                self.assertEqual(found, wanted, (entry.name, wrong, faults))

    def pairs(self, alone):
        """Two faults in unlike places, and each fault alone."""
        return [pair for pair in itertools.product(alone, repeat=2) if pair[0][0] < pair[1][0] or pair[0] == pair[1]]

    def test_faults_of_worlds(self):
        for entry in ENTRIES:
            found = {self.refusal(entry, {}, **faults) for faults in worlds()} - {None}
            if entry.name in ("TapeSet.put", "TapeSet.over", "TapeSet.more", "Chain.add", "Chain.again", "copied"):
                self.assertEqual(found, {"BadLabel", "NoRing"}, entry.name)
            elif entry.name in ("TapeSet.new", "Reel.write", "Reel.write_mark"):
                self.assertEqual(found, {"NoRing"}, entry.name)
            elif entry.name.startswith(("TapeSet.", "Chain.")):
                self.assertEqual(found, {"BadLabel"}, entry.name)
            else:
                self.assertEqual(found, set(), entry.name)

    def test_what_is_handed_in_is_unchanged(self):
        for entry in ENTRIES:
            world = World()
            before = states(world.reels)
            entry.call(world, {})
            for thing, (_, good, _) in zip(entry.handed, entry.given):
                if not callable(good):
                    self.assertEqual(thing, good, entry.name)
            if not entry.does:
                self.assertEqual(states(world.reels), before, entry.name)
            elif entry.does == "moves":
                go_to(world.reels, places(World().reels))
                self.assertEqual(states(world.reels), before, entry.name)

    def test_wrong_lists_are_unchanged(self):
        for entry in ENTRIES:
            for place, (_, _, wrongs) in enumerate(entry.given):
                for thing in wrongs:
                    if isinstance(thing, (list, dict, set)):
                        before = list(thing)
                        self.refusal(entry, {place: thing})
                        self.assertEqual(list(thing), before, entry.name)

    def test_only_its_own_reels_are_changed(self):
        for entry in ENTRIES:
            world = World()
            before = states(world.reels)
            entry.call(world, {})
            after = states(world.reels)
            if not entry.name.startswith(("TapeSet.", "Chain.")):
                self.assertEqual(after[:3], before[:3], entry.name)
            if entry.name != "copied":
                self.assertEqual(after[3:5], before[3:5], entry.name)
            if not entry.name.startswith("Reel."):
                self.assertEqual(after[5:], before[5:], entry.name)

    def test_lists_that_are_told_are_new_ones(self):
        told_lists = set()
        for entry in ENTRIES:
            world = World()
            told = entry.call(world, {})
            if not isinstance(told, (list, tuple)):
                continue
            told_lists.add(entry.name)
            wanted = copy.deepcopy(told)
            before = states(world.reels)
            spoil(told)
            self.assertEqual(states(world.reels), before, entry.name)
            for thing, (_, good, _) in zip(entry.handed, entry.given):
                if not callable(good):
                    self.assertEqual(thing, good, entry.name)
            self.assertEqual(entry.call(world, {}), wanted, entry.name)
        self.assertEqual(told_lists, {
            "Reel.content", "blocked", "unblocked", "read_reel_label", "read_file_label", "read_form_label",
            "TapeSet.get", "TapeSet.get_back", "TapeSet.listed", "salvage", "Chain.members", "Chain.kept", "Chain.get",
            "Chain.words", "runs_of", "merged", "sorted_by", "picture", "tape_used",
        })

    def test_what_is_kept_of_a_list_is_a_copy(self):
        reels = reels_of([500, 500])
        handed = list(reels)
        its = TapeSet(handed)
        handed.reverse()
        handed.pop()
        its.new()
        self.assertEqual([reel.content()[0] for reel in reels], [vol("R1"), vol("R2")])
        records = ["ONE", "TWO"]
        one = Chain(its, "A")
        one.add(records)
        its.more(records)
        records.clear()
        self.assertEqual(one.get(), ["ONE", "TWO", "ONE", "TWO"])

    def test_no_room_changes_nothing_but_on_a_copy(self):
        for entry in ENTRIES:
            if not entry.name.startswith(("TapeSet.", "Chain.")) or entry.does != "writes":
                continue
            for place, (_, good, _) in enumerate(entry.given):
                if isinstance(good, list):
                    self.assertEqual(self.refusal(entry, {place: ["X" * 30] * 400}), "NoReel", entry.name)
        world = World()
        its = TapeSet(reels_of([300], "T"))
        with self.assertRaises(errors.NoReel):
            copied(world.tapes, its)
        self.assertEqual([row[0] for row in its.listed()], ["A", "B"])


if __name__ == "__main__":
    unittest.main()
