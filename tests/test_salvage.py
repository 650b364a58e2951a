"""Torn reels: points [1] and [11] of the document."""

import itertools
import re
import unittest

from reelrows.errors import BadReel
from reelrows.reels import Reel
from reelrows.salvage import is_whole_set, salvage
from reelrows.sets import TapeSet
from tests.taping import (
    File, TapeCase, contents, go_to, hdr2, label, load, read_by_signs, set_of, set_with, states, twenties, vol, written,
)
from tests.test_records import could_stand, letters
from tests.test_set_reading import LONG_LENGTHS, long_files, three_files


def pieces_on(rows):
    """Of each file its name, its form, and the reel, the place and the blocks of each piece."""
    files = []
    for which, its in enumerate(rows):
        for begins, row in enumerate(its):
            if row and row[:4] == "HDR1":
                if row[18:22] == "0001":
                    found = re.fullmatch("HDR2(.)(...)(...)", its[begins + 1])
                    files.append((row[4:12].rstrip(), (found[1], int(found[2]), int(found[3])), []))
                blocks = its[begins + 3:its.index(None, begins + 3)]
                files[-1][2].append((which, begins, blocks))
    return files


def whole_in(blocks, form):
    """The whole records in the first blocks of a file."""
    if form[0] != "S":
        return could_stand(blocks, *form)
    parts = []
    for text in blocks:
        while text:
            end = 4 + int(text[1:4])
            parts.append((text[0], text[4:end]))
            text = text[end:]
    while parts and parts[-1][0] in "13":
        parts.pop()
    records = []
    for sign, part in parts:
        records += [part] if sign in "01" else []
        records[-1] += part if sign in "23" else ""
    return records


def left_of(rows, cuts):
    """What salvage tells of these rows if so many of each reel are left."""
    told = []
    for name, form, pieces in pieces_on(rows):
        blocks, stands, whole = [], False, True
        for which, begins, its in pieces:
            left = cuts[which]
            if whole and left >= begins + 3:
                stands = stands or begins == pieces[0][1] and which == pieces[0][0]
                blocks += its[:left - begins - 3]
            whole = whole and left >= begins + 3 + len(its) + 3
        if stands:
            told.append((name, whole_in(blocks, form), whole))
        if not whole:
            break
    return told


class SalvageCase(TapeCase):
    def assert_salvaged(self, lengths, rows, told, whole=None):
        tapes, reels = set_of(lengths, rows)
        go_to(reels, [len(its) // 2 for its in rows])
        before = states(reels)
        self.assertEqual(salvage(tapes), told)
        if whole is None:
            found = read_by_signs([reel.called() for reel in reels], rows)
            whole = not isinstance(found, str) and all(could_stand(file[2], *file[1]) is not None for file in found)
        self.assertIs(is_whole_set(tapes), whole)
        self.assertEqual(states(reels), before)


class TestWholeSets(SalvageCase):
    def test_all_files_are_told(self):
        self.assert_salvaged([1000], written([1000], three_files()), [
            ("PAY", ["ONE", "TWO", "THREE"], True), ("NONE", [], True), ("ABCDEFGH", ["ABC", "DEFGH", ""], True),
        ], True)
        self.assert_salvaged(LONG_LENGTHS, written(LONG_LENGTHS, long_files()), [
            ("LONG", twenties(8), True), ("NEXT", ["ABCDE", "FGHIJKLMNOP"], True), ("END", twenties(1, 90), True),
        ], True)

    def test_new_sets(self):
        self.assert_salvaged([150, 150], written([150, 150], []), [], True)
        self.assert_salvaged([150, 150], [written([150], [])[0], []], [], True)

    def test_kinds_of_what_is_told(self):
        tapes, reels = set_with(LONG_LENGTHS, long_files())
        told = salvage(tapes)
        self.assertIs(type(told), list)
        for row in told:
            self.assertEqual([type(row)] + [type(part) for part in row], [tuple, str, list, bool])
        told[0][1].clear()
        told.clear()
        self.assertEqual(len(salvage(tapes)), 3)
        self.assertEqual(salvage(tapes)[0][1], twenties(8))

    def test_no_sets(self):
        reel = Reel("A", length=150)
        for wrong in [
            None, True, False, 0, 1, "", "A", b"A", [], (), {}, set(), [reel], (reel,), {"A": reel}, reel, Reel, TapeSet,
            object(), [TapeSet([reel])],
        ]:
            self.assert_refused(BadReel, [reel], salvage, wrong)
            self.assert_refused(BadReel, [reel], is_whole_set, wrong)

    def test_rings_do_not_matter(self):
        tapes, reels = set_with(LONG_LENGTHS, long_files())
        for reel in reels:
            reel.ring(False)
        self.assertEqual([row[2] for row in salvage(tapes)], [True, True, True])
        self.assertIs(is_whole_set(tapes), True)

    def test_reels_that_are_not_gone_on_to(self):
        rows = written([150], [File("A", twenties(2))])
        for rest in [[], ["x"], [vol("R9"), None], written([150, 150], [File("A", twenties(5))])[1]]:
            self.assert_salvaged([150, 150], rows + [rest], [("A", twenties(2), True)], True)


class TestTornReels(SalvageCase):
    def assert_torn(self, lengths, rows):
        full = [len(its) for its in rows]
        self.assert_salvaged(lengths, rows, left_of(rows, full), True)
        for which, its in enumerate(rows):
            for at in range(len(its)):
                cuts = full[:which] + [at] + full[which + 1:]
                torn = [its[:left] for its, left in zip(rows, cuts)]
                self.assert_salvaged(lengths, torn, left_of(rows, cuts))

    def test_at_each_place_of_each_reel(self):
        self.assert_torn([1000], written([1000], three_files()))
        self.assert_torn(LONG_LENGTHS, written(LONG_LENGTHS, long_files()))
        files = [File("A", twenties(3)), File("B", twenties(2, 50)), File("C", twenties(1, 70))]
        self.assert_torn([150, 300], written([150, 300], files))

    def test_parted_records_over_reels(self):
        tapes, reels = set_with([150, 150, 200, 300], [])
        tapes.put("S", [letters(20), "", letters(45, 3), letters(7, 9), letters(60, 1)], form="S", block=13, size=60)
        tapes.put("V", [letters(many) for many in range(9)], form="V", block=13, size=10)
        self.assertGreater(tapes.listed()[0][7], 1)
        self.assert_torn([150, 150, 200, 300], contents(reels))

    def test_torn_by_its_own_deed(self):
        tapes, reels = set_with([150, 150], [File("A", twenties(5))])
        reels[1].tear(5)
        self.assertEqual(salvage(tapes), [("A", twenties(4), False)])
        self.assertIs(is_whole_set(tapes), False)
        reels[0].tear(5)
        self.assertEqual(salvage(tapes), [("A", twenties(1), False)])

    def test_two_reels_torn(self):
        rows = written(LONG_LENGTHS, long_files())
        full = [len(its) for its in rows]
        for first, second in itertools.combinations(range(4), 2):
            for one, two in itertools.product(range(0, full[first], 2), range(0, full[second], 3)):
                cuts = list(full)
                cuts[first], cuts[second] = one, two
                self.assert_salvaged(LONG_LENGTHS, [its[:left] for its, left in zip(rows, cuts)], left_of(rows, cuts))

    def test_by_hand(self):
        rows = written([150, 150], [File("A", twenties(5))])
        for at, told in [
            (0, []), (1, []), (2, []), (3, []), (4, [("A", [], False)]), (5, [("A", twenties(1), False)]),
            (7, [("A", twenties(3), False)]), (8, [("A", twenties(3), False)]), (9, [("A", twenties(3), False)]),
            (10, [("A", twenties(5), True)]),
        ]:
            self.assert_salvaged([150, 150], [rows[0][:at], rows[1]], told)
        for at, told in [
            (0, [("A", twenties(3), False)]), (3, [("A", twenties(3), False)]), (4, [("A", twenties(3), False)]),
            (5, [("A", twenties(4), False)]), (6, [("A", twenties(5), False)]), (7, [("A", twenties(5), False)]),
            (8, [("A", twenties(5), False)]), (9, [("A", twenties(5), True)]),
        ]:
            self.assert_salvaged([150, 150], [rows[0], rows[1][:at]], told, False)

    def test_a_file_whose_head_does_not_stand_is_not_told(self):
        files = [File("A", twenties(2)), File("B", twenties(2, 10))]
        rows = written([1000], files)[0]
        at = rows.index(label("HDR1", "B", "R1", 1, 2, 0, 0, 1, 0, 0))
        for left in range(at, at + 3):
            self.assert_salvaged([1000], [rows[:left]], [("A", twenties(2), True)], False)
        self.assert_salvaged([1000], [rows[:at + 3]], [("A", twenties(2), True), ("B", [], False)], False)


class TestReelsLeftOut(SalvageCase):
    def test_last_reels(self):
        rows = written(LONG_LENGTHS, long_files())
        self.assert_salvaged(LONG_LENGTHS[:1], rows[:1], [("LONG", twenties(3), False)], False)
        self.assert_salvaged(LONG_LENGTHS[:2], rows[:2], [("LONG", twenties(6), False)], False)
        self.assert_salvaged(
            LONG_LENGTHS[:3], rows[:3], [("LONG", twenties(8), True), ("NEXT", ["ABCDE"], False)], False,
        )

    def test_a_reel_between(self):
        tapes, reels = set_with(LONG_LENGTHS, long_files())
        other = TapeSet([reels[0], reels[2], reels[3]])
        # The piece of the third reel is the first one that does not fit, but it has the same name and form.
        self.assertEqual(salvage(other), [("LONG", twenties(3) + twenties(8)[6:], False)])
        self.assertIs(is_whole_set(other), False)

    def test_reels_in_another_order(self):
        tapes, reels = set_with([150, 150], [File("A", twenties(5))])
        other = TapeSet(reels[::-1])
        self.assertEqual(salvage(other), [("A", twenties(5)[3:], False)])
        self.assertIs(is_whole_set(other), False)


class TestTurnedLabels(SalvageCase):
    def turned(self, rows, which, place, row):
        other = [list(its) for its in rows]
        other[which][place] = row
        return other

    def test_own_labels(self):
        rows = written([150, 150], [File("A", twenties(5))])
        for wrong in [vol("R3"), "x", None, "VOL1"]:
            self.assert_salvaged([150, 150], self.turned(rows, 0, 0, wrong), [], False)
            self.assert_salvaged([150, 150], self.turned(rows, 1, 0, wrong), [("A", twenties(3), False)], False)

    def test_an_end_label(self):
        rows = written([1000], [File("A", twenties(2)), File("B", twenties(2, 10))])
        end = rows[0][7]
        self.assertEqual(end[:4], "EOF1")
        for wrong in [end[:-1] + "3", end[:-1] + "1", "EOFX" + end[4:], end[:4] + "X" + end[5:], "x", None]:
            self.assert_salvaged([1000], self.turned(rows, 0, 7, wrong), [("A", twenties(2), False)], False)
        for start in [12, 18, 22, 26, 30, 32, 37]:
            wrong = end[:start] + "9" + end[start + 1:]
            self.assert_salvaged([1000], self.turned(rows, 0, 7, wrong), [("A", twenties(2), False)], False)

    def test_an_end_label_that_goes_on(self):
        rows = written([150, 150], [File("A", twenties(5))])
        end = rows[0][8]
        self.assertEqual(end[:4], "EOV1")
        for wrong in [end[:-1] + "2", "x", None]:
            self.assert_salvaged([150, 150], self.turned(rows, 0, 8, wrong), [("A", twenties(3), False)], False)
        # It ends there then, and is whole.
        ended = "EOF1" + end[4:]
        self.assert_salvaged([150, 150], self.turned(rows, 0, 8, ended), [("A", twenties(3), True)], True)

    def test_the_marks_behind_end_labels(self):
        rows = written([150, 150], [File("A", twenties(5))])
        self.assert_salvaged([150, 150], self.turned(rows, 0, 9, "x"), [("A", twenties(3), False)], False)
        self.assert_salvaged([150, 150], self.turned(rows, 0, 10, "x"), [("A", twenties(5), True)], True)
        self.assert_salvaged([150, 150], self.turned(rows, 1, 8, "x"), [("A", twenties(5), False)], False)
        self.assert_salvaged([150, 150], self.turned(rows, 1, 9, "x"), [("A", twenties(5), True)], False)

    def test_a_head_label_that_is_none(self):
        rows = written([1000], [File("A", twenties(2)), File("B", twenties(2, 10))])
        head, form = rows[0][9:11]
        self.assertEqual(head[:4], "HDR1")
        for wrong in ["x", None, "HDRX" + head[4:], "EOF1" + head[4:], head[:4] + "b" + head[5:], head[1:], form]:
            self.assert_salvaged([1000], self.turned(rows, 0, 9, wrong), [("A", twenties(2), True)], wrong is None)
        for wrong in ["x", None, "HDR2F004004", head]:
            self.assert_salvaged([1000], self.turned(rows, 0, 10, wrong), [("A", twenties(2), True)], False)
        self.assert_salvaged([1000], self.turned(rows, 0, 11, "x"), [("A", twenties(2), True)], False)

    def test_a_head_label_that_stands_but_does_not_fit(self):
        rows = written([1000], [File("A", twenties(2)), File("B", twenties(2, 10))])
        head = rows[0][9]
        for start in [12, 18, 22, 26, 30, 32, 37, 42]:
            wrong = head[:start] + "7" + head[start + 1:]
            self.assert_salvaged(
                [1000], self.turned(rows, 0, 9, wrong), [("A", twenties(2), True), ("B", twenties(2, 10), False)], False,
            )
        wrong = head[:4] + "X" + head[5:]
        self.assert_salvaged(
            [1000], self.turned(rows, 0, 9, wrong), [("A", twenties(2), True), ("X", twenties(2, 10), False)], False,
        )

    def test_a_second_head_with_another_name_or_form(self):
        rows = written([150, 150], [File("A", twenties(5))])
        head = rows[1][1]
        named = self.turned(rows, 1, 1, head[:4] + "B" + head[5:])
        self.assert_salvaged([150, 150], named, [("A", twenties(3), False)], False)
        named[1][-3] = named[1][-3][:4] + "B" + named[1][-3][5:]
        self.assert_salvaged([150, 150], named, [("A", twenties(3), False)], False)
        for form in [("F", 40, 20), ("F", 20, 10), ("V", 20, 17), ("S", 20, 20)]:
            formed = self.turned(rows, 1, 2, hdr2(form))
            self.assert_salvaged([150, 150], formed, [("A", twenties(3), False)], False)

    def test_a_second_head_that_differs_in_other_fields(self):
        rows = written([150, 150], [File("A", twenties(5))])
        head = rows[1][1]
        for start in [12, 18, 22, 26, 30, 32, 37, 42]:
            wrong = head[:start] + "7" + head[start + 1:]
            self.assert_salvaged([150, 150], self.turned(rows, 1, 1, wrong), [("A", twenties(5), False)], False)

    def test_a_second_head_that_is_none(self):
        rows = written([150, 150], [File("A", twenties(5))])
        for place, wrong in [(1, "x"), (1, None), (1, "EOF1" + rows[1][1][4:]), (2, "x"), (2, None), (3, "x")]:
            self.assert_salvaged([150, 150], self.turned(rows, 1, place, wrong), [("A", twenties(3), False)], False)

    def test_nothing_is_told_behind_a_piece_that_does_not_fit(self):
        rows = written([150] * 3, [File("A", twenties(8))])
        end = rows[1][8]
        wrong = self.turned(rows, 1, 8, end[:-1] + "9")
        self.assert_salvaged([150] * 3, wrong, [("A", twenties(6), False)], False)

    def test_up_to_a_mark(self):
        rows = written([1000], [File("A", twenties(4))])
        rows[0].insert(6, None)
        self.assert_salvaged([1000], rows, [("A", twenties(2), False)], False)


class TestBlocksOfAnotherForm(SalvageCase):
    def test_up_to_the_first_one(self):
        for place in range(4):
            for wrong in ["x", "x" * 19, "x" * 21, "x" * 40]:
                rows = written([1000], [File("A", twenties(4)), File("B", twenties(2, 10))])
                rows[0][4 + place] = wrong
                self.assert_salvaged([1000], rows, [("A", twenties(place), False)], False)

    def test_the_last_file(self):
        rows = written([1000], [File("A", twenties(4)), File("B", twenties(2, 10))])
        rows[0][-5] = "x"
        self.assert_salvaged([1000], rows, [("A", twenties(4), True), ("B", twenties(1, 10), False)], False)

    def test_records_with_lengths(self):
        blocks = ["003ONE003TWO", "005THREE", "004FOUR"]
        for place, wrong, left in [
            (0, "003ONE004TWO", []), (1, "005THREE0", ["ONE", "TWO"]), (1, "010" + "x" * 10, ["ONE", "TWO"]),
            (2, "000" * 7, ["ONE", "TWO", "THREE"]), (2, "four", ["ONE", "TWO", "THREE"]),
        ]:
            rows = written([1000], [File("A", blocks, ("V", 19, 9))])
            rows[0][4 + place] = wrong
            self.assert_salvaged([1000], rows, [("A", left, False)], False)

    def test_parts(self):
        blocks = ["0003ABC1004DEFG", "3005HIJKL", "2001M0000", "0002NO"]
        form = ("S", 15, 50)
        rows = written([1000], [File("A", blocks, form)])
        self.assert_salvaged([1000], rows, [("A", ["ABC", "DEFGHIJKLM", "", "NO"], True)], True)
        for place, wrong, left in [
            (0, "2003ABC1004DEFG", []), (0, "0003ABC0004DEFG", ["ABC", "DEFG"]), (1, "0005HIJKL", ["ABC"]),
            (1, "1005HIJKL", ["ABC"]), (1, "x", ["ABC"]), (2, "2001M3000", ["ABC"]), (2, "0001M0000", ["ABC"]),
            (2, "3001M0000", ["ABC"]), (3, "0003NO", ["ABC", "DEFGHIJKLM", ""]), (3, "2002NO", ["ABC", "DEFGHIJKLM", ""]),
        ]:
            turned = [list(rows[0])]
            turned[0][4 + place] = wrong
            self.assert_salvaged([1000], turned, [("A", left, False)], False)

    def test_a_last_record_without_its_last_part(self):
        blocks = ["0003ABC1004DEFG", "3005HIJKL"]
        rows = [[
            vol("R1"), label("HDR1", "A", "R1", 1, 1, 0, 0, 1, 0, 0), hdr2(("S", 15, 50)), None, *blocks, None,
            label("EOF1", "A", "R1", 1, 1, 0, 0, 1, 0, 2), None, None,
        ]]
        self.assert_salvaged([1000], rows, [("A", ["ABC"], False)], False)

    def test_a_record_longer_than_the_size(self):
        blocks = ["0003ABC1004DEFG", "3004HIJK", "2001L"]
        rows = [[
            vol("R1"), label("HDR1", "A", "R1", 1, 1, 0, 0, 1, 0, 0), hdr2(("S", 15, 8)), None, *blocks, None,
            label("EOF1", "A", "R1", 1, 1, 0, 0, 1, 0, 3), None, None,
        ]]
        self.assert_salvaged([1000], rows, [("A", ["ABC"], False)], False)

    def test_in_a_piece_that_does_not_fit(self):
        rows = written([150, 150], [File("A", twenties(6))])
        rows[1][5] = "x"
        del rows[1][7:]
        self.assert_salvaged([150, 150], rows, [("A", twenties(4), False)], False)

    def test_no_piece_is_read_behind_it(self):
        rows = written([150, 150], [File("A", twenties(6))])
        rows[0][5] = "x"
        self.assert_salvaged([150, 150], rows, [("A", twenties(1), False)], False)


class TestSalvagedSetsGoOn(SalvageCase):
    def test_what_is_told_can_be_put_on_another_set(self):
        tapes, reels = set_with([150, 150], [File("A", twenties(5))])
        reels[1].tear(5)
        other, others = set_with([1000], [])
        for name, records, whole in salvage(tapes):
            other.put(name, records)
        self.assertEqual(other.get(1), twenties(4))
        load(reels[1], [vol("R2")])
        tapes_again = TapeSet(reels)
        tapes_again.new()
        self.assertEqual(salvage(tapes_again), [])
        self.assertIs(is_whole_set(tapes_again), True)


if __name__ == "__main__":
    unittest.main()
