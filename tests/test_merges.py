"""Copied sets and rows that are merged: points [1] and [13] of the document."""

import inspect
import itertools
import unittest

from reelrows.errors import BadBlock, BadLabel, BadNumber, BadRecord, BadReel, NoReel, NoRing, ReelError
from reelrows.merges import copied, merged, passes, runs_of, sorted_by
from reelrows.records import blocked
from reelrows.sets import TapeSet
from tests.taping import (
    File, TapeCase, go_to, label, load, places, reels_of, set_of, set_with, states, twenties, vol, written,
)
from tests.test_chains import NO_SETS
from tests.wrong import NO_LISTS, NO_TEXTS, NO_WHOLE_NUMBERS


def file_of(name, records, form, told):
    return File(name, blocked(records, form=form[0], block=form[1], size=form[2]), form, told)


def of_all_forms():
    """Files of all forms, with numbers that can be told from one another."""
    words = ["R%02d" % number for number in range(30)]
    return [
        file_of("FIXED", words, ("F", 10, 3), (1, 2, 3, 4)),
        file_of("VARYING", [word * (number % 8) for number, word in enumerate(words)], ("V", 60, 57), (0, 0, 0, 0)),
        file_of("PARTED", [word * number for number, word in enumerate(words)], ("S", 17, 200), (9999, 99, 99999, 99999)),
        File("NONE", [], ("S", 5, 1), (5, 6, 7, 8)),
        file_of("FIXED", ["", "X", "YY"], ("V", 5, 2), (1, 3, 5, 7)),
    ]


def other_set(lengths, rows=()):
    """A set of reels S1, S2 .. on which these rows stand, and the reels."""
    reels = reels_of(lengths, "S")
    for reel, its in zip(reels, rows):
        load(reel, its)
    return TapeSet(reels), reels


class TestInterface(unittest.TestCase):
    def test_parameters_behind_a_star(self):
        for given in [(runs_of, [], 1), (passes, 1, 2), (sorted_by, [], 1, 2)]:
            with self.assertRaises(TypeError):
                given[0](*given[1:])
        for deed, names in [(runs_of, ["room"]), (passes, ["ways"]), (sorted_by, ["room", "ways"])]:
            its = inspect.signature(deed).parameters.values()
            behind = [one for one in its if one.kind == inspect.Parameter.KEYWORD_ONLY]
            self.assertEqual([one.name for one in behind], names)
            self.assertEqual([one.default for one in behind], [inspect.Parameter.empty] * len(names))


class TestCopied(TapeCase):
    def assert_copied(self, lengths, others, files, rows=()):
        """That all that stands on the copy is what put would have written there."""
        tapes, reels = set_with(lengths, files, owner="ME")
        go_to(reels, [len(reel.content()) * 2 // 3 for reel in reels])
        before = states(reels)
        other, its = other_set(others, rows)
        go_to(its, [len(reel.content()) // 2 for reel in its])
        found = copied(tapes, other)
        self.assertEqual(found, len(files))
        self.assertIs(type(found), int)
        self.assert_rows(its, written(others, files, letter="S"))
        self.assertEqual(places(its), [0] * len(its))
        self.assertEqual(states(reels), before)
        self.assertEqual([row[:7] for row in other.listed()], [row[:7] for row in tapes.listed()])
        for number in range(1, len(files) + 1):
            self.assertEqual(other.get(number), tapes.get(number))
            self.assertEqual(other.get(number), files[number - 1].records())

    def test_no_files(self):
        self.assert_copied([500], [150], [])
        self.assert_copied([500, 500], [150] * 6, [])

    def test_one_file_of_each_form(self):
        for file in of_all_forms():
            self.assert_copied([5000], [5000], [file])

    def test_several_files_of_all_forms(self):
        self.assert_copied([5000], [5000], of_all_forms())
        self.assert_copied([5000], [5000], of_all_forms()[::-1])

    def test_shorter_and_longer_fewer_and_more_reels(self):
        kinds = [[5000], [5000, 5000], [1500, 1500, 1500], [700, 900, 800, 1000, 600, 150], [4000, 150]]
        for lengths, others in itertools.product(kinds, repeat=2):
            self.assert_copied(lengths, others, of_all_forms())

    def test_reels_of_the_other_set_that_had_things_on_them(self):
        rows = written([1500] * 3, of_all_forms(), letter="S")
        self.assert_copied([5000], [5000] * 3, of_all_forms()[:2], rows)
        self.assert_copied([5000], [5000] * 3, [], rows)
        self.assert_copied([5000], [5000, 5000], of_all_forms()[:1], [["X", None, "Y"], [None, None]])
        self.assert_copied([5000], [5000], of_all_forms(), [[vol("S1", "OLD"), "X"]])

    def test_files_to_be_kept_do_not_matter(self):
        rows = written([5000], [File("OLD", twenties(2), told=(0, 0, 1, 99999))], letter="S")
        self.assert_copied([5000], [5000], [File("NEW", [])], rows)

    def test_the_owner_of_the_copy(self):
        tapes, reels = set_with([500, 500], [], owner="ME")
        other, its = other_set([500, 500, 500])
        other.new(owner="YOU")
        copied(tapes, other)
        self.assertEqual([reel.content()[0] for reel in its], [vol("S1"), vol("S2"), vol("S3")])
        self.assertEqual([reel.content()[0] for reel in reels], [vol("R1", "ME"), vol("R2", "ME")])

    def test_rings_of_the_first_set_do_not_matter(self):
        tapes, reels = set_with([5000], of_all_forms())
        reels[0].ring(False)
        other, its = other_set([5000])
        self.assertEqual(copied(tapes, other), 5)
        self.assert_rows(its, written([5000], of_all_forms(), letter="S"))

    def test_a_copy_of_a_copy(self):
        tapes, reels = set_with([1200] * 4, of_all_forms())
        other, its = other_set([2000, 5000])
        copied(tapes, other)
        third = reels_of([1200] * 4)
        copied(other, TapeSet(third))
        self.assertEqual([reel.content() for reel in third], [reel.content() for reel in reels])

    def test_serials_may_be_alike(self):
        tapes, reels = set_with([1000], [File("A", twenties(2))])
        its = reels_of([1000])
        self.assertEqual(copied(tapes, TapeSet(its)), 1)
        self.assertEqual(states(its), states(reels))

    def test_files_are_put_so_records_of_more_fill_the_blocks_that_are_begun(self):
        tapes, reels = set_with([1000], [])
        tapes.put("A", ["ONE", "TWO"], form="V", block=20, size=10)
        tapes.more(["THREE"])
        other, its = other_set([1000])
        copied(tapes, other)
        self.assertEqual(other.get(1), ["ONE", "TWO", "THREE"])
        blocks = ["003ONE003TWO005THREE"]
        self.assert_rows(its, written([1000], [File("A", blocks, ("V", 20, 10))], letter="S"))

    def test_ninety_nine_files(self):
        files = [File("F%d" % number, twenties(1) if number in (40, 80) else []) for number in range(1, 100)]
        tapes, reels = set_of([5000] * 4, written([5000] * 4, files))
        other, its = other_set([5000] * 3)
        self.assertEqual(copied(tapes, other), 99)
        self.assert_rows(its, written([5000] * 3, files, letter="S"))


class TestCopiedRefusals(TapeCase):
    def test_things_that_are_no_sets(self):
        tapes, reels = set_with([1000], [File("A", twenties(2))])
        go_to(reels, [3])
        for thing in NO_SETS:
            self.assert_refused(BadReel, reels, copied, thing, tapes)
            self.assert_refused(BadReel, reels, copied, tapes, thing)
            self.assert_refused(BadReel, reels, copied, thing, thing)

    def test_too_few_reels(self):
        files = of_all_forms()
        tapes, reels = set_with([5000], files)
        go_to(reels, [4])
        before = states(reels)
        seen = set()
        for length in range(150, 2600, 35):
            for many in (1, 2):
                lengths = [length] * many
                room = max(number for number in range(6) if written(lengths, files[:number], letter="S") is not None)
                other, its = other_set(lengths, [["OLD"]] * many)
                go_to(its, [1] * many)
                if room == len(files):
                    self.assertEqual(copied(tapes, other), len(files))
                else:
                    with self.assertRaises(ReelError) as caught:
                        copied(tapes, other)
                    self.assertIs(type(caught.exception), NoReel)
                self.assert_rows(its, written(lengths, files[:room], letter="S"))
                self.assertEqual(places(its), [0] * many)
                self.assertEqual(other.count(), room)
                self.assertEqual(states(reels), before)
                seen.add(room)
        # The fourth file has no blocks, so it has room wherever the third one ends.
        self.assertEqual(seen, {0, 1, 2, 4, 5})

    def test_none_behind_the_first_that_had_no_room(self):
        files = [File("A", twenties(2)), File("B", twenties(9)), File("C", [])]
        tapes, reels = set_with([1000], files)
        other, its = other_set([400])
        with self.assertRaises(NoReel):
            copied(tapes, other)
        self.assert_rows(its, written([400], files[:1], letter="S"))
        self.assertEqual(other.put("C", []), 2)

    def test_no_number_for_one_more_file(self):
        files = [File("A", twenties(1) if number in (40, 80) else []) for number in range(1, 101)]
        rows = written([5000] * 4, files[:99])
        told = ("A", "R1", 1, 100, 0, 0, 1, 0)
        rows[2][-1:] = [label("HDR1", *told, 0), "HDR2F020020", None, None, label("EOF1", *told, 0), None, None]
        tapes, reels = set_of([5000] * 4, rows)
        self.assertEqual(tapes.count(), 100)
        other, its = other_set([5000] * 4)
        with self.assertRaises(NoReel):
            copied(tapes, other)
        self.assert_rows(its, written([5000] * 4, files[:99], letter="S"))

    def test_a_ring_that_is_taken_out(self):
        tapes, reels = set_with([1000], [File("A", twenties(2))])
        for which in (0, 1, 2):
            other, its = other_set([1000] * 3, written([1000] * 3, [File("OLD", twenties(3))], letter="S"))
            go_to(its, [3, 2, 1])
            its[which].ring(False)
            self.assert_refused(NoRing, reels + its, copied, tapes, other)

    def test_a_first_set_that_cannot_be_read(self):
        rows = written([400, 500], [File("A", twenties(2)), File("B", twenties(12)), File("C", twenties(2))])
        for which in (0, 1):
            # Of the first reel, where B goes on, the second mark at the end is not looked for.
            for place in range(len(rows[which]) - 1 + which):
                tapes, reels = set_of([400, 500], rows)
                reels[which].tear(place)
                other, its = other_set([1000, 1000], written([1000] * 2, [File("OLD", twenties(3))], letter="S"))
                go_to(its, [3, 2])
                self.assert_refused(BadLabel, reels + its, copied, tapes, other)

    def test_a_file_that_goes_on_beyond_the_last_reel(self):
        rows = written([400, 400], [File("A", twenties(20))])
        tapes, reels = set_of([400], rows[:1])
        other, its = other_set([1000], [["OLD"]])
        go_to(its, [1])
        self.assert_refused(NoReel, reels + its, copied, tapes, other)

    def test_a_block_that_is_none_of_the_form(self):
        rows = written([1000], [File("A", twenties(2)), File("B", ["X" * 20, "Y" * 20])])
        rows[0][rows[0].index("Y" * 20)] = "Y" * 19
        tapes, reels = set_of([1000], rows)
        other, its = other_set([1000], [["OLD"]])
        go_to(its, [1])
        self.assert_refused(BadBlock, reels + its, copied, tapes, other)

    def test_the_order(self):
        files = [File("A", twenties(40))]
        torn, its = set_with([2000], files)
        its[0].tear(5)
        tapes, reels = set_with([2000], files)
        other, others = other_set([300], [["OLD"]])
        others[0].ring(False)
        every = its + reels + others
        self.assert_refused(BadReel, every, copied, torn, None)
        self.assert_refused(BadReel, every, copied, None, other)
        self.assert_refused(BadLabel, every, copied, torn, other)
        self.assert_refused(NoRing, every, copied, tapes, other)
        others[0].ring(True)
        self.assert_refused(BadLabel, every, copied, torn, other)
        with self.assertRaises(NoReel):
            copied(tapes, other)
        self.assert_rows(others, written([300], [], letter="S"))


def runs_by_hand(records, room):
    """Records told from one another by where they come in; each turn all that are held are sorted anew."""
    waiting = [(text, number) for number, text in enumerate(records)]
    held, waiting = waiting[:room], waiting[room:]
    rows = []
    last = None
    while held:
        held.sort()
        which = 0
        while which < len(held) and last is not None and held[which][0] < last:
            which += 1
        if last is None or which == len(held):
            rows.append([])
            which = 0
        last = held.pop(which)[0]
        rows[-1].append(last)
        if waiting:
            held.append(waiting.pop(0))
    return rows


def turned(many, step=37, modulus=101):
    """So many texts that neither rise nor fall."""
    return ["%03d" % (number * step % modulus) for number in range(many)]


class TestRunsOf(TapeCase):
    def test_no_records_and_one(self):
        for room in (1, 2, 50):
            self.assertEqual(runs_of([], room=room), [])
            self.assertEqual(runs_of(["A"], room=room), [["A"]])
            self.assertEqual(runs_of([""], room=room), [[""]])

    def test_by_hand(self):
        for records, room, wanted in [
            (["C", "A", "B"], 1, [["C"], ["A", "B"]]),
            (["C", "A", "B"], 2, [["A", "B", "C"]]),
            (["C", "B", "A"], 2, [["B", "C"], ["A"]]),
            (["D", "B", "A", "C"], 2, [["B", "D"], ["A", "C"]]),
            (["E", "A", "D", "B", "C", "F"], 2, [["A", "D", "E"], ["B", "C", "F"]]),
            (["E", "A", "D", "B", "C", "F"], 3, [["A", "B", "C", "D", "E", "F"]]),
            (["B", "A", "A", "C", "A"], 2, [["A", "A", "B", "C"], ["A"]]),
            (["9", "10", "A", "a", "", " ", "~"], 7, [["", " ", "10", "9", "A", "a", "~"]]),
        ]:
            self.assertEqual(runs_of(records, room=room), wanted, (records, room))

    def test_fewer_records_than_the_room(self):
        for many in range(1, 51):
            self.assertEqual(runs_of(turned(many), room=50), [sorted(turned(many))])
        self.assertEqual(runs_of(["B", "A"], room=2), [["A", "B"]])
        self.assertEqual(runs_of(["B", "A"], room=3), [["A", "B"]])

    def test_records_in_order_are_one_run(self):
        records = ["%03d" % number for number in range(200)]
        for room in (1, 2, 7, 49, 50):
            self.assertEqual(runs_of(records, room=room), [records])

    def test_records_in_the_contrary_order_are_runs_as_long_as_the_room(self):
        records = ["%03d" % number for number in range(200)][::-1]
        for room in (1, 2, 7, 49, 50):
            wanted = [sorted(records[start:start + room]) for start in range(0, 200, room)]
            self.assertEqual(runs_of(records, room=room), wanted)

    def test_like_records(self):
        for room in (1, 2, 50):
            self.assertEqual(runs_of(["A"] * 120, room=room), [["A"] * 120])
        self.assertEqual(runs_of(["B", "B", "A", "A", "B"], room=1), [["B", "B"], ["A", "A", "B"]])

    def test_all_short_rows(self):
        for many in range(7):
            for records in itertools.product("ABC", repeat=many):
                for room in (1, 2, 3, 4):
                    self.assertEqual(runs_of(list(records), room=room), runs_by_hand(records, room), (records, room))

    def test_against_another_way(self):
        for step, modulus in [(37, 101), (55, 89), (7, 50), (999, 1000), (13, 8)]:
            records = turned(400, step, modulus)
            for room in (1, 2, 3, 10, 49, 50):
                rows = runs_of(records, room=room)
                self.assertEqual(rows, runs_by_hand(records, room))
                self.assertEqual(sorted(sum(rows, [])), sorted(records))
                self.assertTrue(all(row == sorted(row) and row for row in rows))

    def test_no_room(self):
        for room in NO_WHOLE_NUMBERS + [0, -1, 51, 10 ** 5000, -10 ** 5000]:
            self.assert_refused(BadNumber, [], runs_of, ["A"], room=room)
            self.assert_refused(BadNumber, [], runs_of, [], room=room)

    def test_no_lists_of_texts(self):
        for records in NO_LISTS + [[thing] for thing in NO_TEXTS] + [["A", thing] for thing in NO_TEXTS]:
            self.assert_refused(BadRecord, [], runs_of, records, room=5)
            self.assert_refused(BadRecord, [], runs_of, records, room=0)

    def test_records_of_any_length(self):
        self.assertEqual(runs_of(["Y" * 500, "X" * 1000, ""], room=2), [["X" * 1000, "Y" * 500], [""]])

    def test_new_lists(self):
        records = ["B", "A", "C"]
        rows = runs_of(records, room=3)
        self.assertEqual(records, ["B", "A", "C"])
        self.assertIs(type(rows), list)
        self.assertIs(type(rows[0]), list)
        rows[0].append("X")
        self.assertEqual(records, ["B", "A", "C"])
        self.assertEqual(runs_of(records, room=3), [["A", "B", "C"]])


class Text(str):
    """A text that can be told from like ones."""


class TestMerged(TapeCase):
    def test_by_hand(self):
        for rows, wanted in [
            ([], []), ([[]], []), ([[], [], []], []), ([["A"]], ["A"]), ([["A", "B"], []], ["A", "B"]),
            ([[], ["A"]], ["A"]), ([["B"], ["A"]], ["A", "B"]), ([["A", "C", "E"], ["B", "D"]], ["A", "B", "C", "D", "E"]),
            ([["C"], ["B"], ["A"]], ["A", "B", "C"]), ([["A", "A"], ["A"]], ["A", "A", "A"]),
            ([["", "B"], [" "], ["", "~"]], ["", "", " ", "B", "~"]), ([["10"], ["9"]], ["10", "9"]),
        ]:
            self.assertEqual(merged(rows), wanted)

    def test_all_short_rows(self):
        rising = [list(row) for many in range(4) for row in itertools.combinations_with_replacement("ABC", many)]
        for many in range(4):
            for rows in itertools.product(rising, repeat=many):
                self.assertEqual(merged(list(rows)), sorted(sum(rows, [])))

    def test_many_rows(self):
        for many in (2, 3, 4, 5, 7, 8, 9, 50, 51, 300):
            rows = [sorted(turned(number % 9, number + 1)) for number in range(many)]
            self.assertEqual(merged(rows), sorted(sum(rows, [])))

    def test_of_like_records_those_of_earlier_rows_go_first(self):
        for many in range(1, 12):
            rows = [[Text(sign) for sign in ("A", "B", "B", "C")[number % 3:]] for number in range(many)]
            found = merged(rows)
            wanted = [record for sign in "ABC" for row in rows for record in row if record == sign]
            self.assertEqual([id(record) for record in found], [id(record) for record in wanted])

    def test_rows_that_do_not_rise(self):
        for rows in [
            [["B", "A"]], [["A"], ["B", "A"]], [["A", "B", "A"]], [["B", "A"], []], [["A", ""]], [["b", "B"]],
            [["9", "10"]], [["A", "B"], ["A", "C", "B"], ["A"]],
        ]:
            self.assert_refused(BadRecord, [], merged, rows)

    def test_no_lists_of_lists_of_texts(self):
        for thing in NO_LISTS:
            if thing != []:
                self.assert_refused(BadRecord, [], merged, thing)
            self.assert_refused(BadRecord, [], merged, [thing])
            self.assert_refused(BadRecord, [], merged, [["A"], thing])
        for thing in NO_TEXTS:
            self.assert_refused(BadRecord, [], merged, [[thing]])
            self.assert_refused(BadRecord, [], merged, [["A"], ["A", thing]])
            self.assert_refused(BadRecord, [], merged, [["A"], [thing, "A"]])
            self.assert_refused(BadRecord, [], merged, [[thing, thing]])
        self.assert_refused(BadRecord, [], merged, (["A"], ["B"]))
        self.assert_refused(BadRecord, [], merged, ["A", "B"])
        self.assert_refused(BadRecord, [], merged, [["A", "C"], "D"])
        self.assert_refused(BadRecord, [], merged, [("A", "B")])
        self.assert_refused(BadRecord, [], merged, [["B", "A", 1]])

    def test_new_lists(self):
        for rows in [[], [["A", "B"]], [["A"], []], [[], ["A"]], [["A"], ["A", "B"], ["C"]]]:
            before = [list(row) for row in rows]
            found = merged(rows)
            self.assertIs(type(found), list)
            self.assertEqual(rows, before)
            found.append("X")
            self.assertEqual(rows, before)
            self.assertNotEqual(merged(rows), found)


def turns_by_hand(rows, ways):
    """Rows as bare numbers, so many of them put into one in each turn."""
    left, turns = list(range(rows)), 0
    while len(left) > 1:
        following = []
        while left:
            following.append(left[0])
            left = left[ways:]
        left, turns = following, turns + 1
    return turns


class TestPasses(TapeCase):
    def test_by_hand(self):
        for rows, ways, wanted in [
            (0, 2, 0), (1, 2, 0), (2, 2, 1), (3, 2, 2), (4, 2, 2), (5, 2, 3), (8, 2, 3), (9, 2, 4), (1024, 2, 10),
            (1025, 2, 11), (100000, 2, 17), (65536, 2, 16), (65537, 2, 17),
            (0, 3, 0), (1, 3, 0), (2, 3, 1), (3, 3, 1), (4, 3, 2), (9, 3, 2), (10, 3, 3), (100000, 3, 11),
            (0, 50, 0), (1, 50, 0), (2, 50, 1), (49, 50, 1), (50, 50, 1), (51, 50, 2), (2500, 50, 2), (2501, 50, 3),
            (100000, 50, 3), (99999, 50, 3), (100, 49, 2), (2401, 49, 2), (2402, 49, 3),
        ]:
            found = passes(rows, ways=ways)
            self.assertEqual(found, wanted, (rows, ways))
            self.assertIs(type(found), int)

    def test_just_as_many_as_the_ways_and_one_more(self):
        for ways in range(2, 51):
            told = [passes(rows, ways=ways) for rows in (0, 1, 2, ways, ways + 1, ways * ways, ways * ways + 1)]
            self.assertEqual(told, [0, 0, 1, 1, 2, 2, 3])

    def test_against_another_way(self):
        for ways in (2, 3, 4, 7, 50):
            for rows in range(130):
                self.assertEqual(passes(rows, ways=ways), turns_by_hand(rows, ways), (rows, ways))

    def test_no_numbers(self):
        for thing in NO_WHOLE_NUMBERS + [-1, 100001, 10 ** 5000, -10 ** 5000]:
            self.assert_refused(BadNumber, [], passes, thing, ways=2)
            self.assert_refused(BadNumber, [], passes, thing, ways=1)
        for thing in NO_WHOLE_NUMBERS + [-2, -1, 0, 1, 51, 100, 10 ** 5000, -10 ** 5000]:
            for rows in (0, 1, 5, 100000):
                self.assert_refused(BadNumber, [], passes, rows, ways=thing)


class TestSortedBy(TapeCase):
    def test_by_hand(self):
        falling = ["%03d" % number for number in range(200)][::-1]
        for records, room, ways, wanted in [
            ([], 1, 2, 0), ([], 50, 50, 0), (["A"], 1, 2, 0), (["A"], 50, 50, 0), (["A", "B"], 1, 2, 0),
            (["B", "A"], 1, 2, 1), (["B", "A"], 2, 2, 0), (["C", "B", "A"], 1, 2, 2), (["C", "B", "A"], 1, 3, 1),
            (["C", "B", "A"], 2, 2, 1), (["D", "C", "B", "A"], 1, 3, 2), (["D", "C", "B", "A"], 2, 3, 1),
            (["B", "A", "C", "A"], 1, 50, 1), (["A"] * 60, 1, 2, 0),
            # In the contrary order there are 200, 100 or 4 runs.
            (falling, 1, 2, 8), (falling, 1, 3, 5), (falling, 1, 50, 2), (falling, 2, 2, 7), (falling, 2, 3, 5),
            (falling, 2, 50, 2), (falling, 50, 2, 2), (falling, 50, 3, 2), (falling, 50, 50, 1), (falling[::-1], 1, 2, 0),
            (falling[:50], 1, 50, 1), (falling[:51], 1, 50, 2), (falling[:50], 50, 2, 0), (falling[:51], 50, 2, 1),
        ]:
            found = sorted_by(records, room=room, ways=ways)
            self.assertIs(type(found), tuple)
            self.assertEqual(found, (sorted(records), wanted), (len(records), room, ways))
            self.assertIs(type(found[0]), list)
            self.assertIs(type(found[1]), int)

    def test_against_the_own_sorting_of_the_language(self):
        for step, modulus in [(37, 101), (55, 89), (7, 50), (999, 1000)]:
            for many in (0, 1, 2, 3, 50, 51, 300):
                records = turned(many, step, modulus)
                for room, ways in itertools.product((1, 2, 3, 50), (2, 3, 50)):
                    wanted = sorted(records), turns_by_hand(len(runs_by_hand(records, room)), ways)
                    self.assertEqual(sorted_by(records, room=room, ways=ways), wanted)

    def test_all_short_rows(self):
        for many in range(6):
            for records in itertools.product("ABC", repeat=many):
                for room, ways in [(1, 2), (2, 2), (1, 3)]:
                    wanted = sorted(records), turns_by_hand(len(runs_by_hand(records, room)), ways)
                    self.assertEqual(sorted_by(list(records), room=room, ways=ways), wanted)

    def test_no_numbers(self):
        for thing in NO_WHOLE_NUMBERS + [-1, 0, 51, 10 ** 5000]:
            self.assert_refused(BadNumber, [], sorted_by, ["B", "A"], room=thing, ways=2)
            self.assert_refused(BadNumber, [], sorted_by, ["B", "A"], room=1, ways=thing)
            self.assert_refused(BadNumber, [], sorted_by, [], room=thing, ways=2)
            self.assert_refused(BadNumber, [], sorted_by, [], room=1, ways=thing)
        self.assert_refused(BadNumber, [], sorted_by, ["B", "A"], room=1, ways=1)
        self.assert_refused(BadNumber, [], sorted_by, [], room=1, ways=1)

    def test_no_lists_of_texts(self):
        for records in NO_LISTS + [[thing] for thing in NO_TEXTS] + [["A", thing] for thing in NO_TEXTS]:
            for room, ways in itertools.product((1, 0, None), (2, 1, None)):
                self.assert_refused(BadRecord, [], sorted_by, records, room=room, ways=ways)

    def test_more_rows_than_passes_takes(self):
        records = ["B", "A"] * 100001
        self.assertEqual(sorted_by(records, room=1, ways=50), (sorted(records), 3))

    def test_new_lists(self):
        for records in (["A", "B"], ["B", "A"], []):
            before = list(records)
            found = sorted_by(records, room=1, ways=2)[0]
            found.append("X")
            self.assertEqual(records, before)


if __name__ == "__main__":
    unittest.main()
