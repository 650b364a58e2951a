"""Sets and what stands on their reels: points [1], [7] and [8] of the document."""

import inspect
import itertools
import unittest

from reelrows.errors import BadLabel, BadName, BadReel, NoReel, NoRing
from reelrows.reels import Reel
from reelrows.sets import TapeSet
from tests.taping import (
    File, TapeCase, contents, go_to, hdr2, label, load, places, reels_of, set_of, set_with, tape, twenties, vol, written,
)
from tests.test_labels import NO_NAMES

METHODS = ["new", "count", "get", "get_back", "listed", "put", "over", "more"]
DEFAULTS = {"form": "V", "block": 40, "size": 30, "generation": 0, "version": 0, "day": 1, "ends": 0}


class TestInterface(unittest.TestCase):
    def test_methods_stand_in_the_class_itself(self):
        for name in METHODS:
            self.assertIn(name, vars(TapeSet))

    def assert_named(self, deed, defaults):
        parameters = inspect.signature(deed).parameters.values()
        named = {each.name: each.default for each in parameters if each.kind is inspect.Parameter.KEYWORD_ONLY}
        self.assertEqual(named, defaults)

    def test_parameters_behind_a_star(self):
        self.assert_named(TapeSet.new, {"owner": "NOBODY"})
        self.assert_named(TapeSet.put, DEFAULTS)
        self.assert_named(TapeSet.over, DEFAULTS)
        for name in ["count", "get", "get_back", "listed", "more"]:
            self.assert_named(getattr(TapeSet, name), {})
        tapes = TapeSet(reels_of([150]))
        for deed, given in [
            (tapes.new, ("A",)), (tapes.put, ("A", [], "V")), (tapes.over, (1, "A", [], "V")), (tapes.get, ()),
            (tapes.more, ()), (tapes.put, ("A",)), (tapes.over, (1, "A")), (TapeSet, ()),
        ]:
            with self.assertRaises(TypeError):
                deed(*given)


class TestReelsOfASet(TapeCase):
    def test_one_to_six_reels_in_a_list_or_a_tuple(self):
        for many in range(1, 7):
            for kind in (list, tuple):
                reels = reels_of([150] * many)
                tapes = TapeSet(kind(reels))
                tapes.new()
                self.assertEqual(tapes.count(), 0)
                self.assert_rows(reels, written([150] * many, []))

    def test_no_reels_of_a_set(self):
        reel, other, twin = Reel("A", length=150), Reel("B", length=200), Reel("A", length=300)
        wrong = [
            [], (), reels_of([150] * 7), tuple(reels_of([150] * 8)), [reel, twin], (reel, other, twin), [reel, reel],
            reel, {reel}, {reel: 1}, {"A": reel}, None, True, False, 0, 1, "", "A", "AB", b"A", object(), Reel, TapeSet,
            [None], [reel, None], [None, reel], ["A"], ["A", "B"], (reel, "B"), [reel, [other]], [[reel]], [Reel], [1],
            [True], (reel, other, 7), [[], []], [{}], iter([reel]), TapeSet([reel]), [TapeSet([reel])],
        ]
        for reels in wrong:
            self.assert_refused(BadReel, [reel, other, twin], TapeSet, reels)

    def test_what_is_kept_is_a_copy(self):
        reels = reels_of([150, 150])
        handed = list(reels)
        tapes = TapeSet(handed)
        handed.clear()
        tapes.new()
        self.assert_rows(reels, written([150, 150], []))
        handed = list(reels)
        TapeSet(handed).new(owner="ME")
        self.assertEqual(handed, reels)

    def test_making_a_set_changes_no_reel(self):
        reels = reels_of([150, 200])
        load(reels[0], ["one", None], place=1)
        TapeSet(reels)
        self.assertEqual(contents(reels), [["one", None], []])
        self.assertEqual(places(reels), [1, 0])


class TestNew(TapeCase):
    def test_its_label_and_two_marks(self):
        for owner in ["NOBODY", "A", "ABCDEFGH", "0"]:
            reels = [Reel("A", length=150), Reel("ABCDEF", length=5000), Reel("9", length=200)]
            self.assertIsNone(TapeSet(reels).new(owner=owner))
            self.assertEqual(
                contents(reels),
                [["VOL1A     %-8s" % owner, None, None], ["VOL1ABCDEF%-8s" % owner, None, None],
                 ["VOL19     %-8s" % owner, None, None]],
            )
            self.assertEqual(places(reels), [0, 0, 0])

    def test_the_owner_may_be_left_out(self):
        reels = reels_of([150])
        TapeSet(reels).new()
        self.assertEqual(contents(reels), [[vol("R1", "NOBODY"), None, None]])

    def test_all_else_is_lost(self):
        reels = reels_of([150, 150])
        load(reels[0], ["x" * 99] * 5, place=4)
        load(reels[1], [None] * 20, place=1)
        TapeSet(reels).new()
        self.assert_rows(reels, written([150, 150], []))
        self.assertEqual(places(reels), [0, 0])

    def test_no_owners(self):
        reels = reels_of([150, 150])
        load(reels[0], ["one", None], place=1)
        tapes = TapeSet(reels)
        for owner in NO_NAMES + ["ABCDEFGHI"]:
            self.assert_refused(BadName, reels, tapes.new, owner=owner)

    def test_a_reel_without_its_ring(self):
        for without in range(3):
            reels = reels_of([150, 150, 150])
            for reel in reels:
                load(reel, ["one", None], place=1)
            reels[without].ring(False)
            tapes = TapeSet(reels)
            self.assert_refused(NoRing, reels, tapes.new)
            self.assert_refused(BadName, reels, tapes.new, owner="")
            reels[without].ring(True)
            tapes.new()
            self.assert_rows(reels, written([150, 150, 150], []))


class TestOwnLabels(TapeCase):
    def deeds(self, tapes):
        return [
            (tapes.count,), (tapes.listed,), (tapes.get, 1), (tapes.get_back, 1), (tapes.put, "A", []),
            (tapes.over, 1, "A", []), (tapes.more, []),
        ]

    def test_a_first_reel_without_its_label(self):
        for rows in [
            [], [None], [None, None], [vol("R2"), None, None], [None, vol("R1"), None, None], ["one", None, None],
            [label("HDR1", "R1", "R1", 1, 1, 0, 0, 0, 0, 0), None, None], [vol("R11"), None, None], [vol("1R"), None, None],
            ["VOL1R1    ", None, None], ["VOL2R1    NOBODY  ", None, None], [vol("R1")],
        ]:
            tapes, reels = set_of([300, 300], [rows, written([300], [])[0]])
            go_to(reels, [len(rows) // 2, 1])
            for deed, *given in self.deeds(tapes):
                self.assert_refused(BadLabel, reels, deed, *given)

    def test_a_reel_that_is_not_gone_on_to_needs_no_label(self):
        tapes, reels = set_of([300, 300], [written([300], [])[0], []])
        self.assertEqual(tapes.count(), 0)
        self.assertEqual(tapes.put("A", ["X"]), 1)
        self.assertEqual(tapes.get(1), ["X"])
        self.assertEqual(tapes.more(["Y"]), 2)
        self.assertEqual(reels[1].content(), [])

    def test_behind_the_label_of_a_new_reel_just_the_first_mark_is_looked_for(self):
        tapes, reels = set_of([300], [[vol("R1"), None]])
        self.assertEqual(tapes.count(), 0)
        tapes, reels = set_of([300], [[vol("R1"), None, "one", None]])
        self.assertEqual(tapes.listed(), [])
        self.assertEqual(tapes.put("A", []), 1)
        self.assert_rows(reels, written([300], [File("A", [], ("V", 40, 30))]))

    def test_any_owner_may_stand_in_it(self):
        file = File("A", twenties(20))
        rows = written([300, 300], [file])
        rows[1][0] = vol("R2", "ANOTHER")
        tapes, reels = set_of([300, 300], rows)
        self.assertEqual(tapes.get(1), file.records())


class TestWhatStands(TapeCase):
    def test_block_by_block(self):
        reels = reels_of([1000])
        tapes = TapeSet(reels)
        tapes.new()
        self.assertEqual(tapes.put("PAY", ["ONE", "TWO"], day=12, ends=345), 1)
        first = [
            "VOL1R1    NOBODY  ",
            "HDR1PAY     R1    000100010000000001200345000000", "HDR2V040030", None,
            "003ONE003TWO", None,
            "EOF1PAY     R1    000100010000000001200345000001", None,
        ]
        self.assertEqual(contents(reels), [first + [None]])
        self.assertEqual(tapes.put("B", ["ABCDE"], form="F", block=5, size=5, generation=7, version=8), 2)
        second = [
            "HDR1B       R1    000100020007080000100000000000", "HDR2F005005", None, "ABCDE", None,
            "EOF1B       R1    000100020007080000100000000001", None,
        ]
        self.assertEqual(contents(reels), [first + second + [None]])
        self.assertEqual(tapes.put("NONE", [], form="S", block=60, size=200), 3)
        third = [
            "HDR1NONE    R1    000100030000000000100000000000", "HDR2S060200", None, None,
            "EOF1NONE    R1    000100030000000000100000000000", None,
        ]
        self.assertEqual(contents(reels), [first + second + third + [None]])
        self.assertEqual(places(reels), [0])

    def test_a_file_over_two_reels(self):
        reels = reels_of([150, 150])
        tapes = TapeSet(reels)
        tapes.new()
        blocks = twenties(5)
        tapes.put("LONG", blocks, form="F", block=20, size=20)
        self.assertEqual(contents(reels), [
            [vol("R1"), label("HDR1", "LONG", "R1", 1, 1, 0, 0, 1, 0, 0), hdr2(("F", 20, 20)), None, *blocks[:3], None,
             label("EOV1", "LONG", "R1", 1, 1, 0, 0, 1, 0, 3), None, None],
            [vol("R2"), label("HDR1", "LONG", "R1", 2, 1, 0, 0, 1, 0, 0), hdr2(("F", 20, 20)), None, *blocks[3:], None,
             label("EOF1", "LONG", "R1", 2, 1, 0, 0, 1, 0, 2), None, None],
        ])

    def test_files_over_several_reels(self):
        lengths = [150, 170, 200, 151, 160, 300]
        for many in range(0, 30):
            files = [File("A", twenties(many)), File("B", twenties(2, 50), told=(3, 4, 5, 6)), File("C", [])]
            for some in range(1, 4):
                rows = written(lengths, files[:some])
                if rows is not None:
                    tapes, reels = set_with(lengths, files[:some])
                    self.assert_rows(reels, rows)
                    self.assertEqual(places(reels), [0] * 6)
        self.assertIsNone(written(lengths, [File("A", twenties(30))]))
        self.assertEqual(set_with(lengths, [File("A", twenties(20))])[0].listed()[0][6:], (20, 6))

    def test_a_file_over_each_number_of_reels(self):
        for many in range(1, 7):
            file = File("A", twenties(3 * many))
            tapes, reels = set_with([150] * 6, [file])
            self.assert_rows(reels, written([150] * 6, [file]))
            self.assertEqual(tapes.listed(), [("A", 1, 0, 0, 1, 0, 3 * many, many)])
            self.assertEqual(tapes.get(1), file.records())

    def test_a_first_reel_without_a_block(self):
        files = [File("A", twenties(3)), File("B", twenties(2, 50)), File("C", twenties(1, 70))]
        tapes, reels = set_with([150, 300], files)
        self.assert_rows(reels, written([150, 300], files))
        place = 11
        self.assertEqual(reels[0].content()[place - 1:], [
            label("HDR1", "B", "R1", 1, 2, 0, 0, 1, 0, 0), hdr2(("F", 20, 20)), None, None,
            label("EOV1", "B", "R1", 1, 2, 0, 0, 1, 0, 0), None, None,
        ])
        self.assertEqual(tapes.listed()[1:], [("B", 2, 0, 0, 1, 0, 2, 2), ("C", 3, 0, 0, 1, 0, 1, 1)])

    def test_the_first_serial_is_that_of_the_set_not_of_the_file(self):
        files = [File("A", twenties(4)), File("B", twenties(1))]
        tapes, reels = set_with([150, 5000], files)
        self.assertIn(label("HDR1", "B", "R1", 1, 2, 0, 0, 1, 0, 0), reels[1].content())

    def test_all_forms(self):
        records = ["ABCDEFGHIJKLMNOPQRST"[start:] for start in range(20)]
        for form, block, size in [("V", 23, 20), ("V", 60, 30), ("S", 5, 20), ("S", 60, 200), ("S", 17, 20)]:
            reels = reels_of([400, 400, 400, 400, 400, 400])
            tapes = TapeSet(reels)
            tapes.new()
            tapes.put("A", records, form=form, block=block, size=size)
            self.assertEqual(tapes.get(1), records)
            blocks = [row for reel in reels for row in reel.content() if row and row[:3] not in ("VOL", "HDR", "EOF", "EOV")]
            self.assert_rows(reels, written([400] * 6, [File("A", blocks, (form, block, size))]))

    def test_records_are_not_changed(self):
        tapes, reels = set_with([500, 500, 500], [])
        records = twenties(5)
        tapes.put("A", records)
        tapes.more(records)
        tapes.over(1, "A", records)
        self.assertEqual(records, twenties(5))


class TestAsLongAsTheReel(TapeCase):
    def test_a_block_is_not_put_where_as_much_tape_is_used_as_the_reel_is_long(self):
        # Ahead of the fourth block 21 + 51 + 14 + 4 + 3 * 23 = 159 are used.
        for length, there in [(158, 3), (159, 3), (160, 4)]:
            file = File("A", twenties(5))
            tapes, reels = set_with([length, 500], [file])
            self.assertEqual(reels[0].content().count(None), 4)
            self.assertEqual(reels[0].content()[-3], label("EOV1", "A", "R1", 1, 1, 0, 0, 1, 0, there))
            self.assertEqual(reels[1].content()[-3], label("EOF1", "A", "R1", 2, 1, 0, 0, 1, 0, 5 - there))
            self.assert_rows(reels, written([length, 500], [file]))

    def test_on_a_next_reel(self):
        for length, there in [(158, 3), (159, 3), (160, 4)]:
            file = File("A", twenties(9))
            tapes, reels = set_with([150, length, 500], [file])
            self.assertEqual(reels[1].content()[-3], label("EOV1", "A", "R1", 2, 1, 0, 0, 1, 0, there))
            self.assert_rows(reels, written([150, length, 500], [file]))

    def test_no_next_block_is_no_next_reel(self):
        for length in [158, 159, 160]:
            file = File("A", twenties(3))
            tapes, reels = set_with([length, 500], [file])
            self.assertEqual(reels[0].content()[-3], label("EOF1", "A", "R1", 1, 1, 0, 0, 1, 0, 3))
            self.assertEqual(reels[1].content(), [vol("R2"), None, None])

    def test_labels_and_marks_count_of_a_second_file_too(self):
        # Ahead of the first block of the second file 90 + 23 + 59 + 69 = 241 are used.
        for length, there in [(240, 0), (241, 0), (242, 1)]:
            files = [File("A", twenties(1)), File("B", twenties(2))]
            tapes, reels = set_with([length, 500], files)
            self.assertEqual(reels[0].content()[-3], label("EOV1", "B", "R1", 1, 2, 0, 0, 1, 0, there))
            self.assert_rows(reels, written([length, 500], files))

    def test_a_file_does_not_begin_where_so_much_is_used_and_200(self):
        files = [File("A", ["x" * 22] * 3, ("F", 22, 22)), File("B", [])]
        for length, begins in [(151, False), (152, False), (153, True)]:
            for third in [File("C", []), File("C", twenties(1))]:
                tapes, reels = set_with([length, 500], files)
                self.assertEqual(tape(reels[0].content()[:-1]), 352)
                if begins:
                    self.assertEqual(third.put_on(tapes), 3)
                    self.assert_rows(reels, written([length, 500], files + [third]))
                else:
                    self.assertIsNone(written([length, 500], files + [third]))
                    self.assert_refused(NoReel, reels, third.put_on, tapes)

    def test_nor_in_the_place_of_one(self):
        # By hand, for put would not have begun the third file there.
        for length, begins in [(152, False), (153, True)]:
            files = [File("A", ["x" * 22] * 3, ("F", 22, 22)), File("B", [])]
            rows = written([length], files)
            rows[0][-1:] = [
                label("HDR1", "C", "R1", 1, 3, 0, 0, 1, 0, 0), hdr2(("V", 40, 30)), None, None,
                label("EOF1", "C", "R1", 1, 3, 0, 0, 1, 0, 0), None, None,
            ]
            tapes, reels = set_of([length], rows)
            if begins:
                self.assertEqual(tapes.over(3, "D", []), 3)
            else:
                self.assert_refused(NoReel, reels, tapes.over, 3, "D", [])
            self.assertEqual(tapes.over(2, "D", []), 2)


class TestTooFewReels(TapeCase):
    def test_put(self):
        for many in range(1, 7):
            lengths = [150] * many
            file, longer = File("A", twenties(3 * many)), File("A", twenties(3 * many + 1))
            tapes, reels = set_with(lengths, [])
            go_to(reels, [2] * many)
            self.assertIsNone(written(lengths, [longer]))
            self.assert_refused(NoReel, reels, longer.put_on, tapes)
            self.assertEqual(file.put_on(tapes), 1)
            self.assert_rows(reels, written(lengths, [file]))
            self.assert_refused(NoReel, reels, tapes.more, ["x" * 20])
            self.assert_refused(NoReel, reels, File("B", twenties(1)).put_on, tapes)
            self.assert_refused(NoReel, reels, tapes.over, 1, longer.name, longer.records(), **longer.given())

    def test_a_next_reel_without_a_label(self):
        for wrong in [[], [None, None], ["one"], [vol("R1"), None, None], [vol("R3"), None, None], [None, vol("R2"), None]]:
            tapes, reels = set_with([150, 150, 150], [File("A", twenties(2))])
            load(reels[1], wrong, place=len(wrong))
            go_to(reels[:1], [3])
            file = File("B", twenties(2))
            self.assert_refused(BadLabel, reels, file.put_on, tapes)
            self.assert_refused(BadLabel, reels, tapes.over, 1, "B", twenties(4))
            self.assert_refused(BadLabel, reels, tapes.more, twenties(2))
            self.assertEqual(tapes.over(1, "C", twenties(2)), 1)
            load(reels[1], [vol("R2", "ANOTHER")])
            self.assertEqual(tapes.more(twenties(2)), 4)
            self.assertEqual(reels[1].content()[0], vol("R2", "ANOTHER"))

    def test_a_third_reel_without_a_label(self):
        tapes, reels = set_with([150, 150, 150], [])
        load(reels[2], [None, None])
        go_to(reels, [1, 2, 1])
        self.assert_refused(BadLabel, reels, File("A", twenties(7)).put_on, tapes)
        self.assertEqual(File("A", twenties(6)).put_on(tapes), 1)
        self.assertEqual(places(reels), [0, 0, 1])

    def test_too_few_reels_come_before_a_label(self):
        tapes, reels = set_with([150, 150], [File("A", twenties(1))])
        load(reels[1], ["one"])
        long = twenties(12)
        self.assert_refused(NoReel, reels, tapes.put, "B", long, form="F", block=20, size=20)
        self.assert_refused(NoReel, reels, tapes.over, 1, "B", long, form="F", block=20, size=20)
        self.assert_refused(NoReel, reels, tapes.more, long)


class TestNinetyNineFiles(TapeCase):
    def test_ninety_nine_and_one_more(self):
        lengths = [5000] * 4
        tapes, reels = set_with(lengths, [])
        files = []
        for number in range(1, 100):
            # A file with a block goes on to the next reel where the tape is near its end.
            file = File("F%d" % number, twenties(1) if number in (40, 80) else [])
            self.assertEqual(file.put_on(tapes), number)
            files.append(file)
        self.assert_rows(reels, written(lengths, files))
        self.assertEqual(tapes.count(), 99)
        self.assertEqual(tapes.listed()[79], ("F80", 80, 0, 0, 1, 0, 1, 2))
        self.assertIsNone(written(lengths, files + [File("F100", [])]))
        self.assert_refused(NoReel, reels, tapes.put, "F100", [])
        self.assertEqual(tapes.over(99, "G99", ["X"]), 99)
        self.assertEqual(tapes.more(["Y"]), 2)
        self.assertEqual(tapes.get(99), ["X", "Y"])
        self.assert_refused(NoReel, reels, tapes.put, "F100", ["X"])
        self.assertEqual(tapes.over(98, "G98", []), 98)
        self.assertEqual(tapes.put("H99", ["Z"]), 99)
        self.assert_refused(NoReel, reels, tapes.put, "F100", ["X"])


class TestPlaces(TapeCase):
    def a_set(self):
        """File 1 is on the first reel, 2 on the first and the second, 3 on the second one; the third is new."""
        files = [File("A", twenties(2)), File("B", twenties(4, 10)), File("C", twenties(1, 20))]
        tapes, reels = set_with([280, 400, 150, 150], files)
        self.assertEqual([row[7] for row in tapes.listed()], [1, 2, 1])
        return tapes, reels

    def test_behind_reading(self):
        tapes, reels = self.a_set()
        for wanted in itertools.product([0, 1, 5], [0, 2, 7], [0, 3], [1]):
            go_to(reels, wanted)
            for deed, *given in [(tapes.count,), (tapes.listed,), (tapes.get, 1), (tapes.get, 2), (tapes.get, 3)]:
                deed(*given)
                self.assertEqual(places(reels), list(wanted))

    def test_behind_reading_back(self):
        tapes, reels = self.a_set()
        for number, behind in [(1, [0, 4, 2, 1]), (2, [0, 0, 2, 1]), (3, [3, 0, 2, 1])]:
            go_to(reels, [3, 4, 2, 1])
            before = contents(reels)
            tapes.get_back(number)
            self.assertEqual(places(reels), behind)
            self.assertEqual(contents(reels), before)

    def test_behind_writing(self):
        for deed, given, behind in [
            ("put", ("D", []), [3, 0, 2, 1]),
            ("put", ("D", twenties(6)), [3, 0, 0, 0]),
            ("over", (3, "D", ["X"]), [3, 0, 2, 1]),
            ("over", (2, "D", []), [0, 4, 2, 1]),
            ("over", (2, "D", ["X"]), [0, 4, 2, 1]),
            ("over", (2, "D", twenties(2)), [0, 0, 2, 1]),
            ("over", (1, "D", ["X"]), [0, 4, 2, 1]),
            ("over", (1, "D", twenties(12)), [0, 0, 2, 1]),
            ("more", ([],), [3, 0, 2, 1]),
            ("more", (["x" * 20],), [3, 0, 2, 1]),
            ("more", (twenties(4),), [3, 0, 2, 1]),
            ("more", (twenties(5),), [3, 0, 0, 1]),
        ]:
            tapes, reels = self.a_set()
            go_to(reels, [3, 4, 2, 1])
            before = contents(reels)
            getattr(tapes, deed)(*given)
            self.assertEqual(places(reels), behind, (deed, given))
            for reel, rows, place in zip(reels, before, behind):
                if place:
                    self.assertEqual(reel.content(), rows)

    def test_behind_new(self):
        tapes, reels = self.a_set()
        go_to(reels, [3, 4, 2, 1])
        tapes.new()
        self.assertEqual(places(reels), [0, 0, 0, 0])


if __name__ == "__main__":
    unittest.main()
