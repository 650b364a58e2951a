"""Files put, put over others and gone on with: points [1], [8] and [10] of the document."""

import itertools
import unittest

from reelrows.errors import BadForm, BadLabel, BadName, BadNumber, BadRecord, Kept, NoFile, NoReel, NoRing
from reelrows.records import blocked
from reelrows.sets import TapeSet
from tests.taping import (
    File, TapeCase, contents, go_to, hdr2, label, load, places, reels_of, set_of, set_with, twenties, vol, written,
)
from tests.test_labels import NO_NAMES
from tests.wrong import NO_LISTS, NO_TEXTS, NO_WHOLE_NUMBERS

GREATEST = {"generation": 9999, "version": 99, "day": 99999, "ends": 99999}


def three():
    return [File("A", twenties(2)), File("B", twenties(3, 10)), File("C", twenties(1, 20))]


class TestPut(TapeCase):
    def test_one_behind_the_other(self):
        tapes, reels = set_with([1000], [])
        for number, file in enumerate(three(), 1):
            found = file.put_on(tapes)
            self.assertEqual(found, number)
            self.assertIs(type(found), int)
            self.assert_rows(reels, written([1000], three()[:number]))

    def test_what_is_left_out(self):
        tapes, reels = set_with([1000], [])
        tapes.put("A", ["ONE"])
        self.assert_rows(reels, written([1000], [File("A", ["003ONE"], ("V", 40, 30), (0, 0, 1, 0))]))

    def test_what_the_labels_hold(self):
        tapes, reels = set_with([1000], [])
        tapes.put("ABCDEFGH", [], generation=9999, version=99, day=99999, ends=99999)
        tapes.put("0", [], generation=0, version=0, day=0, ends=0)
        self.assertEqual(tapes.listed(), [("ABCDEFGH", 1, 9999, 99, 99999, 99999, 0, 1), ("0", 2, 0, 0, 0, 0, 0, 1)])

    def test_names_may_stand_twice(self):
        tapes, reels = set_with([1000], [])
        for number in range(1, 4):
            self.assertEqual(tapes.put("A", ["X" * number]), number)
        self.assertEqual([tapes.get(number) for number in (1, 2, 3)], [["X"], ["XX"], ["XXX"]])

    def test_what_lay_behind_is_lost(self):
        rows = written([1000], three()[:1])
        tapes, reels = set_of([1000], [rows[0] + ["x", None, "y"]])
        three()[1].put_on(tapes)
        self.assert_rows(reels, written([1000], three()[:2]))

    def test_files_to_be_kept_do_not_matter(self):
        tapes, reels = set_with([1000], [File("A", [], told=(0, 0, 1, 99999))])
        self.assertEqual(tapes.put("B", []), 2)


class TestOver(TapeCase):
    def test_each_file(self):
        for number in range(1, 4):
            for new in [File("NEW", twenties(2, 40), told=(1, 2, 3, 4)), File("NEW", [])]:
                tapes, reels = set_with([1000], three())
                found = tapes.over(number, new.name, new.records(), **new.given())
                self.assertEqual(found, number)
                self.assertIs(type(found), int)
                self.assert_rows(reels, written([1000], three()[:number - 1] + [new]))

    def test_what_is_left_out(self):
        tapes, reels = set_with([1000], three())
        tapes.over(2, "NEW", ["ONE"])
        self.assert_rows(reels, written([1000], three()[:1] + [File("NEW", ["003ONE"], ("V", 40, 30), (0, 0, 1, 0))]))

    def test_one_behind_the_last(self):
        for files in [[], three()[:1], three()]:
            tapes, reels = set_with([1000], files)
            go_to(reels, [2])
            for number in [len(files) + 1, len(files) + 2, 0, -1, 99, 100, 9999, 10000, 10 ** 5000]:
                self.assert_refused(NoFile, reels, tapes.over, number, "NEW", [], number=number)

    def test_no_numbers(self):
        tapes, reels = set_with([1000], three())
        for number in [number for number in NO_WHOLE_NUMBERS if number is not None]:
            self.assert_refused(NoFile, reels, tapes.over, number, "NEW", [], number=number)
        with self.assertRaises(NoFile) as caught:
            tapes.over(None, "NEW", [])
        self.assertIsNone(caught.exception.number)

    def test_a_file_is_put_behind_it(self):
        tapes, reels = set_with([1000], three())
        tapes.over(1, "NEW", ["ONE"])
        self.assertEqual(tapes.put("NEXT", ["TWO"]), 2)
        self.assertEqual([row[0] for row in tapes.listed()], ["NEW", "NEXT"])

    def test_over_several_reels(self):
        lengths = [150, 150, 300, 150]
        files = [File("A", twenties(2)), File("B", twenties(5, 10)), File("C", twenties(2, 30))]
        for number in range(1, 4):
            for many in range(0, 16):
                new = File("NEW", twenties(many, 50))
                tapes, reels = set_with(lengths, files)
                before = contents(reels)
                rows = written(lengths, files[:number - 1] + [new])
                if rows is None:
                    self.assert_refused(NoReel, reels, tapes.over, number, "NEW", new.records(), **new.given())
                    continue
                tapes.over(number, "NEW", new.records(), **new.given())
                on = max(which for which, its in enumerate(rows) if its[1] is not None)
                self.assertEqual(contents(reels), rows[:on + 1] + before[on + 1:])
                self.assertEqual(tapes.get(number), new.records())
                self.assertEqual(tapes.count(), number)

    def test_what_stays_on_reels_that_are_not_gone_on_to_is_never_read(self):
        tapes, reels = set_with([150, 150, 150], [File("A", twenties(8))])
        stays = contents(reels)[1:]
        tapes.over(1, "B", ["X"])
        self.assertEqual(contents(reels)[1:], stays)
        self.assertEqual(tapes.listed(), [("B", 1, 0, 0, 1, 0, 1, 1)])
        self.assertEqual(tapes.get(1), ["X"])
        self.assertEqual(tapes.get_back(1), ["X"])
        # Now the second reel is gone on to, the third one is not.
        tapes.more(["y" * 30] * 4)
        self.assertEqual(contents(reels)[2:], stays[1:])
        self.assertEqual(tapes.listed(), [("B", 1, 0, 0, 1, 0, 5, 2)])
        self.assertEqual(tapes.get(1), ["X"] + ["y" * 30] * 4)


class TestKept(TapeCase):
    def test_the_day_just_at_and_one_below(self):
        for ends in [1, 2, 500, 99999]:
            tapes, reels = set_with([1000], [File("A", [], told=(0, 0, 1, ends))])
            self.assert_refused(Kept, reels, tapes.over, 1, "NEW", [], day=ends - 1, number=1)
            self.assert_refused(Kept, reels, tapes.over, 1, "NEW", [], day=0, ends=99999, number=1)
            self.assertEqual(tapes.over(1, "NEW", [], day=ends), 1)
        tapes, reels = set_with([1000], [File("A", [], told=(0, 0, 1, 0))])
        self.assertEqual(tapes.over(1, "NEW", [], day=0), 1)

    def test_the_day_that_is_left_out(self):
        tapes, reels = set_with([1000], [File("A", [], told=(0, 0, 1, 2))])
        self.assert_refused(Kept, reels, tapes.over, 1, "NEW", [], number=1)
        tapes, reels = set_with([1000], [File("A", [], told=(0, 0, 1, 1))])
        self.assertEqual(tapes.over(1, "NEW", []), 1)

    def test_ahead_of_it_at_it_and_behind_it(self):
        for kept in itertools.product([False, True], repeat=4):
            files = [File("F%d" % place, twenties(1), told=(0, 0, 1, 8 if its else 7)) for place, its in enumerate(kept)]
            for number in range(1, 5):
                tapes, reels = set_with([1500], files)
                go_to(reels, [3])
                least = [place for place in range(number, 5) if kept[place - 1]]
                if least:
                    self.assert_refused(Kept, reels, tapes.over, number, "NEW", [], day=7, number=least[0])
                else:
                    self.assertEqual(tapes.over(number, "NEW", [], day=7), number)

    def test_the_least_number_not_the_latest_day(self):
        files = [File("A", [], told=(0, 0, 1, 3)), File("B", [], told=(0, 0, 1, 20)), File("C", [], told=(0, 0, 1, 90))]
        tapes, reels = set_with([1000], files)
        self.assert_refused(Kept, reels, tapes.over, 1, "NEW", [], day=5, number=2)
        self.assert_refused(Kept, reels, tapes.over, 3, "NEW", [], day=5, number=3)
        self.assert_refused(Kept, reels, tapes.over, 1, "NEW", [], day=2, number=1)
        self.assert_refused(Kept, reels, tapes.over, 1, "NEW", [], day=20, number=3)
        self.assertEqual(tapes.over(1, "NEW", [], day=90), 1)

    def test_more_needs_no_day(self):
        tapes, reels = set_with([1000], [File("A", [], told=(0, 0, 1, 99999))])
        self.assertEqual(tapes.more(["x" * 20]), 1)


class TestMore(TapeCase):
    def test_on_a_reel_that_has_room(self):
        tapes, reels = set_with([1000], three())
        found = tapes.more(twenties(2, 21))
        self.assertEqual(found, 3)
        self.assertIs(type(found), int)
        self.assert_rows(reels, written([1000], three()[:2] + [File("C", twenties(3, 20))]))
        self.assertEqual(tapes.more(twenties(1, 23)), 4)
        self.assert_rows(reels, written([1000], three()[:2] + [File("C", twenties(4, 20))]))

    def test_labels_tell_what_was_told_at_first(self):
        file = File("A", twenties(2), told=(7, 8, 9, 10))
        tapes, reels = set_with([150, 150, 150], [file])
        self.assertEqual(tapes.more(twenties(6, 2)), 8)
        self.assert_rows(reels, written([150, 150, 150], [File("A", twenties(8), told=(7, 8, 9, 10))]))
        self.assertEqual(tapes.listed(), [("A", 1, 7, 8, 9, 10, 8, 3)])

    def test_in_new_blocks(self):
        tapes, reels = set_with([1000], [])
        tapes.put("A", ["ONE"], form="V", block=40, size=30)
        self.assertEqual(tapes.more(["TWO", "THREE"]), 2)
        self.assert_rows(reels, written([1000], [File("A", ["003ONE", "003TWO005THREE"], ("V", 40, 30))]))
        self.assertEqual(tapes.get(1), ["ONE", "TWO", "THREE"])
        tapes.put("B", ["ABCDEFG"], form="S", block=10, size=20)
        self.assertEqual(tapes.more(["HIJKLMN"]), 4)
        self.assertEqual(tapes.get(2), ["ABCDEFG", "HIJKLMN"])
        self.assertEqual(reels[0].content()[-8:-4], ["1006ABCDEF", "2001G", "1006HIJKLM", "2001N"])
        tapes.put("C", ["AB"], form="F", block=6, size=2)
        self.assertEqual(tapes.more(["CD", "EF", "GH", "IJ"]), 3)
        self.assertEqual(reels[0].content()[-7:-4], ["AB", "CDEFGH", "IJ"])

    def test_no_records(self):
        for many in [0, 1, 3]:
            tapes, reels = set_with([150, 150], [File("A", twenties(many))])
            go_to(reels, [2, 1])
            before = contents(reels)
            self.assertEqual(tapes.more([]), many)
            self.assertEqual(contents(reels), before)

    def test_each_split_of_a_file(self):
        lengths = [150, 170, 159, 200]
        for many in range(0, 20):
            rows = written(lengths, [File("A", twenties(many))])
            for first in range(0, many + 1):
                tapes, reels = set_with(lengths, [])
                if rows is None and first < many and written(lengths, [File("A", twenties(first))]) is not None:
                    File("A", twenties(first)).put_on(tapes)
                    self.assert_refused(NoReel, reels, tapes.more, twenties(many - first, first))
                elif rows is not None:
                    File("A", twenties(first)).put_on(tapes)
                    self.assertEqual(tapes.more(twenties(many - first, first)), many)
                    self.assert_rows(reels, rows)

    def test_block_by_block(self):
        lengths = [150, 170, 159, 200]
        tapes, reels = set_with(lengths, [File("A", [])])
        for many in range(1, 15):
            self.assertEqual(tapes.more(twenties(1, many - 1)), many)
            self.assert_rows(reels, written(lengths, [File("A", twenties(many))]))

    def test_on_a_reel_that_is_near_its_end(self):
        # Ahead of the fourth block 159 are used.
        for length, there in [(158, 3), (159, 3), (160, 4)]:
            tapes, reels = set_with([length, 500], [File("A", twenties(3))])
            self.assertEqual(tapes.more(twenties(2, 3)), 5)
            self.assertEqual(reels[0].content()[-3], label("EOV1", "A", "R1", 1, 1, 0, 0, 1, 0, there))
            self.assert_rows(reels, written([length, 500], [File("A", twenties(5))]))

    def test_a_file_without_blocks_where_none_has_room(self):
        files = [File("A", twenties(3)), File("B", [])]
        tapes, reels = set_with([150, 300], files)
        self.assertEqual(tapes.more(twenties(1, 50)), 1)
        self.assert_rows(reels, written([150, 300], [files[0], File("B", twenties(1, 50))]))
        self.assertEqual(tapes.listed()[1], ("B", 2, 0, 0, 1, 0, 1, 2))

    def test_blocks_stay_on_a_reel_that_has_too_many(self):
        # By hand: a file with more blocks on its reel than would be put there.
        many = twenties(8)
        rows = [[
            vol("R1"), label("HDR1", "A", "R1", 1, 1, 0, 0, 1, 0, 0), hdr2(("F", 20, 20)), None, *many, None,
            label("EOF1", "A", "R1", 1, 1, 0, 0, 1, 0, 8), None, None,
        ], [vol("R2")]]
        tapes, reels = set_of([150, 150], rows)
        self.assertEqual(tapes.more(twenties(1, 8)), 9)
        self.assertEqual(tapes.get(1), twenties(9))
        self.assertEqual(reels[0].content()[4:], many + [None, label("EOV1", "A", "R1", 1, 1, 0, 0, 1, 0, 8), None, None])
        self.assertEqual(reels[1].content()[4], twenties(1, 8)[0])

    def test_where_the_tape_is_at_its_very_end(self):
        # By hand: 21 + 69 + blocks + 63 is just as much as the reel holds at most.
        blocks = ["x" * 57] * 6 + ["y" * 34]
        rows = [[
            vol("R1"), label("HDR1", "A", "R1", 1, 1, 0, 0, 1, 0, 0), hdr2(("V", 60, 57)), None, *blocks, None,
            label("EOF1", "A", "R1", 1, 1, 0, 0, 1, 0, 7), None, None,
        ], [vol("R2")]]
        tapes, reels = set_of([150, 150], rows)
        reels[0].skip_marks(9)
        self.assertEqual(reels[0].used(), 550)
        self.assertEqual(tapes.more(["ONE"]), 8)
        self.assertEqual(reels[1].content()[4], "003ONE")
        self.assertEqual(places(reels), [0, 0])

    def test_what_lay_behind_is_lost(self):
        rows = written([1000], three())
        tapes, reels = set_of([1000], [rows[0] + ["x", None]])
        tapes.more([])
        self.assert_rows(reels, rows)

    def test_files_ahead_stay(self):
        tapes, reels = set_with([280, 400], [File("A", twenties(4)), File("B", twenties(1, 10))])
        before = tapes.get(1)
        tapes.more(twenties(3, 11))
        self.assertEqual(tapes.get(1), before)
        self.assertEqual(tapes.get(2), twenties(4, 10))

    def test_a_file_behind_it(self):
        tapes, reels = set_with([500, 500], three())
        tapes.more(twenties(4, 21))
        self.assertEqual(tapes.put("D", ["X"], form="F", block=5, size=1), 4)
        self.assert_rows(reels, written([500, 500], three()[:2] + [File("C", twenties(5, 20)), File("D", ["X"], ("F", 5, 1))]))


class TestBack(TapeCase):
    def test_each_form_over_several_reels(self):
        records = ["RECORD%02d" % number + "x" * (number * 7 % 13) for number in range(30)]
        for form, block, size in [("V", 23, 20), ("V", 60, 57), ("S", 5, 30), ("S", 20, 200), ("S", 60, 200), ("F", 30, 8)]:
            given = [record[:8] for record in records] if form == "F" else records
            tapes, reels = set_with([900 if block == 5 else 400] * 6, [File("AHEAD", twenties(7))])
            self.assertEqual(tapes.put("A", given, form=form, block=block, size=size), 2)
            tapes.put("BEHIND", ["Z"])
            self.assertGreater(tapes.listed()[1][7], 1)
            go_to(reels, [3] * 6)
            on = {which for which, rows in enumerate(contents(reels)) if any(row and row[4:9] == "A    " for row in rows)}
            self.assertEqual(len(on), tapes.listed()[1][7])
            self.assertEqual(tapes.get_back(2), given[::-1])
            self.assertEqual(places(reels), [0 if which in on else 3 for which in range(6)])
            self.assertEqual(tapes.get(2), given)

    def test_signs_of_a_record_are_not_turned(self):
        tapes, reels = set_with([1000], [])
        tapes.put("A", ["ABC", "DEF"])
        self.assertEqual(tapes.get_back(1), ["DEF", "ABC"])


class TestWrongInputs(TapeCase):
    """Of several refusals that fit it is the one named first."""

    def deeds(self, tapes):
        return [tapes.put, lambda *given, **named: tapes.over(1, *given, **named)]

    def a_set(self):
        tapes, reels = set_with([500, 150], three())
        go_to(reels, [4, 1])
        return tapes, reels

    def test_names(self):
        tapes, reels = self.a_set()
        for deed in self.deeds(tapes):
            for name in NO_NAMES + ["ABCDEFGHI", "ABCDEFGHIJ"]:
                self.assert_refused(BadName, reels, deed, name, [])

    def test_forms(self):
        tapes, reels = self.a_set()
        for deed in self.deeds(tapes):
            for form, block, size in [("F", 4, 1), ("F", 61, 1), ("F", 20, 21), ("V", 20, 18), ("S", 20, 201), ("X", 20, 5)]:
                self.assert_refused(BadForm, reels, deed, "A", [], form=form, block=block, size=size)
            self.assert_refused(BadForm, reels, deed, "A", [], block=32)
            self.assert_refused(BadForm, reels, deed, "A", [], size=38)
            for wrong in NO_TEXTS:
                self.assert_refused(BadForm, reels, deed, "A", [], form=wrong)
            for wrong in NO_WHOLE_NUMBERS:
                self.assert_refused(BadForm, reels, deed, "A", [], block=wrong)
                self.assert_refused(BadForm, reels, deed, "A", [], size=wrong)

    def test_records(self):
        tapes, reels = self.a_set()
        for deed in self.deeds(tapes):
            for wrong in NO_LISTS:
                self.assert_refused(BadRecord, reels, deed, "A", wrong)
            for wrong in NO_TEXTS + ["x" * 31]:
                self.assert_refused(BadRecord, reels, deed, "A", [wrong])
                self.assert_refused(BadRecord, reels, deed, "A", ["ONE", wrong])
            self.assert_refused(BadRecord, reels, deed, "A", ["AB", "C"], form="F", block=20, size=2)
            self.assert_refused(BadRecord, reels, deed, "A", [""], form="F", block=20, size=2)

    def test_numbers_that_their_labels_do_not_hold(self):
        tapes, reels = self.a_set()
        for deed in self.deeds(tapes):
            for name, greatest in GREATEST.items():
                for wrong in [-1, greatest + 1, 10 ** 5000, -10 ** 5000] + NO_WHOLE_NUMBERS:
                    self.assert_refused(BadNumber, reels, deed, "A", [], **{name: wrong})

    def test_rings(self):
        for without in range(2):
            tapes, reels = self.a_set()
            reels[without].ring(False)
            for deed in self.deeds(tapes):
                self.assert_refused(NoRing, reels, deed, "A", [])
            self.assert_refused(NoRing, reels, tapes.more, [])

    def test_the_order_of_put_and_over(self):
        """Each refusal is let go, one behind the other, and the next one comes."""
        files = [File("A", twenties(2)), File("B", twenties(3, 10), told=(0, 0, 1, 50)), File("C", [], told=(0, 0, 1, 60))]
        for which_deed in ["put", "over"]:
            tapes, reels = set_with([400, 150], files)
            rows = contents(reels)
            load(reels[1], ["no label"])
            load(reels[0], rows[0][:-1])
            reels[1].ring(False)
            named = {"form": "F", "block": 4, "size": 20, "generation": True, "day": 49}
            number = 9
            given = ["a", None]

            def deed():
                return tapes.put(*given, **named) if which_deed == "put" else tapes.over(number, *given, **named)

            self.assert_refused(BadName, reels, deed)
            given[0] = "D"
            self.assert_refused(BadForm, reels, deed)
            named["block"] = 20
            self.assert_refused(BadRecord, reels, deed)
            given[1] = twenties(40)
            self.assert_refused(BadNumber, reels, deed)
            named["generation"] = 1
            self.assert_refused(NoRing, reels, deed)
            reels[1].ring(True)
            self.assert_refused(BadLabel, reels, deed)
            load(reels[0], rows[0][:-4] + ["EOV1" + rows[0][-3][4:], None, None])
            self.assert_refused(BadLabel, reels, deed)
            load(reels[0], rows[0][:-3] + ["EOV1" + rows[0][-3][4:], None, None])
            only = TapeSet(reels[:1])
            with self.assertRaises(NoReel):
                only.put(*given, **named) if which_deed == "put" else only.over(number, *given, **named)
            load(reels[0], rows[0])
            if which_deed == "over":
                self.assert_refused(NoFile, reels, deed, number=9)
                number = 1
                self.assert_refused(Kept, reels, deed, number=2)
                named["day"] = 59
                self.assert_refused(Kept, reels, deed, number=3)
                named["day"] = 60
            self.assert_refused(NoReel, reels, deed)
            # All of the first reel's blocks and one more, or some that have no room there at all.
            given[1] = twenties(15) if which_deed == "over" else twenties(3)
            self.assert_refused(BadLabel, reels, deed)
            load(reels[1], [vol("R2")])
            self.assertEqual(deed(), 4 if which_deed == "put" else 1)

    def test_the_order_of_more(self):
        tapes, reels = set_with([150, 150], [])
        rows = contents(reels)
        load(reels[0], rows[0][:1])
        load(reels[1], ["no label"])
        reels[0].ring(False)
        self.assert_refused(BadLabel, reels, tapes.more, None)
        reels[0].ring(True)
        load(reels[0], rows[0])
        reels[0].ring(False)
        self.assert_refused(NoFile, reels, tapes.more, None, number=0)
        reels[0].ring(True)
        load(reels[0], written([150], [File("A", twenties(1))])[0])
        reels[0].ring(False)
        go_to(reels, [2, 1])
        for wrong in NO_LISTS + [["x"], ["x" * 19], ["x" * 21], [""], [None], twenties(1) + [""]]:
            self.assert_refused(BadRecord, reels, tapes.more, wrong)
        self.assert_refused(NoRing, reels, tapes.more, twenties(9))
        self.assert_refused(NoRing, reels, tapes.more, [])
        reels[0].ring(True)
        reels[1].ring(False)
        self.assert_refused(NoRing, reels, tapes.more, [])
        reels[1].ring(True)
        self.assert_refused(NoReel, reels, tapes.more, twenties(9))
        self.assert_refused(BadLabel, reels, tapes.more, twenties(3))
        self.assertEqual(tapes.more(twenties(2)), 3)

    def test_more_by_the_form_of_the_last_file(self):
        tapes, reels = set_with([1000], [File("A", [], ("S", 60, 200)), File("B", [], ("V", 10, 5))])
        self.assert_refused(BadRecord, reels, tapes.more, ["x" * 6])
        self.assertEqual(tapes.more(["x" * 5]), 1)
        tapes.put("C", [], form="F", block=6, size=3)
        self.assert_refused(BadRecord, reels, tapes.more, ["xx"])
        self.assertEqual(tapes.more(["xxx"]), 1)

    def test_more_looks_at_no_block(self):
        rows = written([1000], [File("A", twenties(2))])
        rows[0][4] = "none of the form"
        tapes, reels = set_of([1000], rows)
        self.assertEqual(tapes.more(twenties(1, 2)), 3)
        self.assertEqual(tapes.put("B", []), 2)
        self.assertEqual(tapes.over(1, "C", []), 1)


class TestRowsOfDeeds(TapeCase):
    """Many deeds one behind the other, against what should stand."""

    def test_deeds(self):
        forms = [("F", 20, 10), ("V", 20, 17), ("S", 13, 60), ("V", 60, 40)]
        turn = 1
        for lengths in [[5000], [600, 700, 800], [150] * 6, [300, 200, 400, 150, 5000]]:
            reels = reels_of(lengths)
            tapes = TapeSet(reels)
            tapes.new()
            files, refused = [], 0
            for step in range(120):
                # A row of numbers that looks like chance and is always the same.
                turn = turn * 1103515245 + 12345 & 0x7FFFFFFF
                form = forms[turn // 7 % 4]
                size = form[2] if form[0] == "F" else turn // 11 % form[2]
                records = [chr(65 + (turn + number) % 26) * size for number in range(turn // 3 % 9)]
                kind = turn // 1000 % 4
                before = contents(reels)
                if kind == 0 and files:
                    number = turn // 5 % len(files) + 1
                    wanted = files[:number - 1] + [self.made("O%d" % step, records, form)]
                    deed = lambda: tapes.over(number, "O%d" % step, records, form=form[0], block=form[1], size=form[2])
                elif kind == 1 and files:
                    last = files[-1]
                    records = [record[:10].ljust(10, "-") if last.form[0] == "F" else record[:17] for record in records]
                    wanted = files[:-1] + [File(last.name, last.blocks + self.made("", records, last.form).blocks, last.form)]
                    deed = lambda: tapes.more(records)
                else:
                    wanted = files + [self.made("P%d" % step, records, form)]
                    deed = lambda: tapes.put("P%d" % step, records, form=form[0], block=form[1], size=form[2])
                rows = written(lengths, wanted)
                if rows is None:
                    refused += 1
                    self.assert_refused(NoReel, reels, deed)
                    if refused % 5 != 0:
                        continue
                    wanted = [self.made("AGAIN", ["0123456789"] * 3, forms[0])]
                    rows = written(lengths, wanted)
                    tapes.over(1, "AGAIN", ["0123456789"] * 3, **wanted[0].given())
                else:
                    deed()
                files = wanted
                on = max([0] + [which for which, its in enumerate(rows) if its[1] is not None])
                self.assertEqual(contents(reels)[:on + 1], rows[:on + 1])
                self.assertEqual(contents(reels)[on + 1:], before[on + 1:])
                self.assertEqual([row[0] for row in tapes.listed()], [file.name for file in files])
                for number, file in enumerate(files, 1):
                    self.assertEqual(tapes.get(number), file.records())
            self.assertGreater(len(files), 0)

    def made(self, name, records, form):
        return File(name, blocked(records, form=form[0], block=form[1], size=form[2]), form)


if __name__ == "__main__":
    unittest.main()
