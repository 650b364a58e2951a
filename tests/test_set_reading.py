"""Sets that are read: points [1], [8] and [9] of the document."""

import unittest

from reelrows import errors
from reelrows.errors import BadBlock, BadLabel, NoFile, NoReel
from reelrows.sets import TapeSet
from tests.taping import (
    File, TapeCase, contents, go_to, hdr2, label, load, places, read_by_signs, set_of, set_with, twenties, vol, written,
)
from tests.test_records import could_stand
from tests.wrong import NO_WHOLE_NUMBERS

FIELDS = ["name", "first", "volume", "number", "generation", "version", "made", "end", "blocks"]


def three_files():
    return [
        File("PAY", ["003ONE003TWO", "005THREE"], ("V", 19, 9), (1, 0, 5, 9)),
        File("NONE", [], ("S", 60, 200), (2, 99, 99999, 0)),
        File("ABCDEFGH", ["0003ABC1004DEFG", "2001H0000"], ("S", 15, 50), (9999, 1, 0, 99999)),
    ]


def long_files():
    """A file over three reels, one that goes on from the third to the fourth, and one more."""
    return [
        File("LONG", twenties(8), told=(1, 2, 3, 4)),
        File("NEXT", ["0005ABCDE", "1005FGHIJ", "3005KLMNO", "2001P"], ("S", 9, 50)),
        File("END", twenties(1, 90)),
    ]


LONG_LENGTHS = [150, 150, 280, 400]


class ReadingCase(TapeCase):
    def assert_read_as(self, lengths, rows, wanted=None):
        """All that reads tells what another way of reading tells, and moves no reel."""
        tapes, reels = set_of(lengths, rows)
        wanted = [len(its) // 2 for its in rows] if wanted is None else wanted
        go_to(reels, wanted)
        found = read_by_signs([reel.called() for reel in reels], rows)
        if isinstance(found, str):
            refusal = getattr(errors, found)
            for deed, *given in [(tapes.count,), (tapes.listed,), (tapes.get, 1), (tapes.get_back, 1), (tapes.get, None)]:
                self.assert_refused(refusal, reels, deed, *given)
            return found
        self.assertEqual(tapes.count(), len(found))
        self.assertEqual(tapes.listed(), [file[0] for file in found])
        for number, (_, form, blocks, on) in enumerate(found, 1):
            records = could_stand(blocks, *form)
            if records is None:
                self.assert_refused(BadBlock, reels, tapes.get, number)
                self.assert_refused(BadBlock, reels, tapes.get_back, number)
            else:
                self.assertEqual(tapes.get(number), records)
                self.assertEqual(places(reels), wanted)
                self.assertEqual(tapes.get_back(number), records[::-1])
                self.assertEqual(places(reels), [0 if which in on else at for which, at in enumerate(wanted)])
                go_to(reels, wanted)
        for number in [0, -1, len(found) + 1]:
            self.assert_refused(NoFile, reels, tapes.get, number, number=number)
            self.assert_refused(NoFile, reels, tapes.get_back, number, number=number)
        self.assertEqual(contents(reels), rows)
        return "read"

    def assert_bad(self, lengths, rows, refusal="BadLabel"):
        self.assertEqual(self.assert_read_as(lengths, rows), refusal)

    def assert_good(self, lengths, rows):
        self.assertEqual(self.assert_read_as(lengths, rows), "read")


class TestWhatWasWritten(ReadingCase):
    def test_on_one_reel(self):
        tapes, reels = set_with([1000], three_files())
        self.assertEqual(tapes.count(), 3)
        self.assertEqual(tapes.listed(), [
            ("PAY", 1, 1, 0, 5, 9, 2, 1), ("NONE", 2, 2, 99, 99999, 0, 0, 1), ("ABCDEFGH", 3, 9999, 1, 0, 99999, 2, 1),
        ])
        self.assertEqual(tapes.get(1), ["ONE", "TWO", "THREE"])
        self.assertEqual(tapes.get(2), [])
        self.assertEqual(tapes.get(3), ["ABC", "DEFGH", ""])
        self.assertEqual(tapes.get_back(1), ["THREE", "TWO", "ONE"])
        self.assertEqual(tapes.get_back(2), [])
        self.assertEqual(tapes.get_back(3), ["", "DEFGH", "ABC"])
        self.assert_good([1000], contents(reels))

    def test_over_several_reels(self):
        tapes, reels = set_with(LONG_LENGTHS, long_files())
        self.assertEqual(tapes.count(), 3)
        self.assertEqual(tapes.listed(), [
            ("LONG", 1, 1, 2, 3, 4, 8, 3), ("NEXT", 2, 0, 0, 1, 0, 4, 2), ("END", 3, 0, 0, 1, 0, 1, 1),
        ])
        self.assertEqual(tapes.get(1), twenties(8))
        self.assertEqual(tapes.get_back(1), twenties(8)[::-1])
        self.assertEqual(tapes.get(2), ["ABCDE", "FGHIJKLMNOP"])
        self.assertEqual(tapes.get_back(2), ["FGHIJKLMNOP", "ABCDE"])
        self.assert_good(LONG_LENGTHS, contents(reels))

    def test_no_files(self):
        tapes, reels = set_with([150, 150], [])
        self.assertEqual(tapes.count(), 0)
        self.assertEqual(tapes.listed(), [])
        for number in [0, 1, -1]:
            self.assert_refused(NoFile, reels, tapes.get, number, number=number)

    def test_kinds_of_what_is_told(self):
        tapes, reels = set_with(LONG_LENGTHS, long_files())
        self.assertIs(type(tapes.count()), int)
        for row in tapes.listed():
            self.assertIs(type(row), tuple)
            self.assertEqual([type(part) for part in row], [str] + [int] * 7)
        for told in [tapes.listed(), tapes.get(1), tapes.get_back(1)]:
            self.assertIs(type(told), list)

    def test_lists_are_new_ones(self):
        tapes, reels = set_with(LONG_LENGTHS, long_files())
        for deed, *given in [(tapes.listed,), (tapes.get, 1), (tapes.get_back, 1)]:
            told = deed(*given)
            told.clear()
            self.assertNotEqual(deed(*given), [])
        self.assert_rows(reels, written(LONG_LENGTHS, long_files()))

    def test_rings_do_not_matter(self):
        tapes, reels = set_with(LONG_LENGTHS, long_files())
        for reel in reels:
            reel.ring(False)
        self.assertEqual(tapes.count(), 3)
        self.assertEqual(tapes.get(1), twenties(8))
        self.assertEqual(tapes.get_back(1), twenties(8)[::-1])

    def test_another_set_of_the_same_reels_reads_the_same(self):
        tapes, reels = set_with(LONG_LENGTHS, long_files())
        other = TapeSet(tuple(reels))
        self.assertEqual(other.listed(), tapes.listed())
        other.put("MORE", ["X"])
        self.assertEqual(tapes.get(4), ["X"])


class TestNumbers(ReadingCase):
    def test_no_file_with_its_field(self):
        tapes, reels = set_with(LONG_LENGTHS, long_files())
        go_to(reels, [2, 3, 4, 5])
        for number in [0, -1, 4, 5, 99, 100, 10000, 10 ** 5000, -3]:
            self.assert_refused(NoFile, reels, tapes.get, number, number=number)
            self.assert_refused(NoFile, reels, tapes.get_back, number, number=number)
        for number in [number for number in NO_WHOLE_NUMBERS + [[1], (1,), "1"] if number is not None]:
            self.assert_refused(NoFile, reels, tapes.get, number, number=number)
            self.assert_refused(NoFile, reels, tapes.get_back, number, number=number)
        for deed in (tapes.get, tapes.get_back):
            with self.assertRaises(NoFile) as caught:
                deed(None)
            self.assertIsNone(caught.exception.number)

    def test_a_block_that_is_none_of_the_form(self):
        for files, which, place in [(three_files(), 0, 4), (three_files(), 0, 5)]:
            rows = written([1000], files)
            for block in ["x" * 21, "x" * 99, "003AB", "0", "x"]:
                rows[which][place] = block
                tapes, reels = set_of([1000], rows)
                go_to(reels, [7])
                self.assert_refused(BadBlock, reels, tapes.get, 1)
                self.assert_refused(BadBlock, reels, tapes.get_back, 1)
                self.assert_refused(NoFile, reels, tapes.get, 4, number=4)
                # The others can be read, and all can be listed and counted.
                self.assertEqual(tapes.get(3), ["ABC", "DEFGH", ""])
                self.assertEqual((tapes.count(), tapes.listed()[0][6]), (3, 2))

    def test_parts_out_of_turn_over_two_reels(self):
        blocks = ["1016" + "x" * 16] * 1 + ["3016" + "x" * 16] * 3 + ["2016" + "x" * 16]
        file = File("A", blocks, ("S", 20, 200))
        rows = written([150, 150], [file])
        self.assert_good([150, 150], rows)
        rows[1][4] = "0016" + "x" * 16
        tapes, reels = set_of([150, 150], rows)
        self.assert_refused(BadBlock, reels, tapes.get, 1)
        self.assert_read_as([150, 150], rows)

    def test_bad_label_before_no_file_before_bad_block(self):
        rows = written([1000], three_files())
        rows[0][4] = "x"
        tapes, reels = set_of([1000], rows)
        self.assert_refused(BadBlock, reels, tapes.get, 1)
        self.assert_refused(NoFile, reels, tapes.get, 9, number=9)
        rows[0][-1:] = []
        tapes, reels = set_of([1000], rows)
        self.assert_refused(BadLabel, reels, tapes.get, 1)
        self.assert_refused(BadLabel, reels, tapes.get, 9)
        self.assert_refused(BadLabel, reels, tapes.get, None)


class TestTurnedRows(ReadingCase):
    def test_each_row_left_out(self):
        for lengths, files in [([1000], three_files()), (LONG_LENGTHS, long_files())]:
            rows = written(lengths, files)
            for which, its in enumerate(rows):
                for place in range(len(its)):
                    turned = [list(row) for row in rows]
                    del turned[which][place]
                    self.assert_read_as(lengths, turned)

    def test_each_row_doubled_and_moved(self):
        for lengths, files in [([1000], three_files()), (LONG_LENGTHS, long_files())]:
            rows = written(lengths, files)
            for which, its in enumerate(rows):
                for place in range(len(its)):
                    doubled = [list(row) for row in rows]
                    doubled[which].insert(place, its[place])
                    self.assert_read_as(lengths, doubled)
                    for there in range(len(its)):
                        moved = [list(row) for row in rows]
                        moved[which].insert(there, moved[which].pop(place))
                        self.assert_read_as(lengths, moved)

    def test_each_row_turned_into_another(self):
        others = [None, "x", vol("R1"), vol("R2"), hdr2(("F", 20, 20)), hdr2(("S", 15, 50)), "EOF1", "HDR1"]
        for lengths, files in [([1000], three_files()), (LONG_LENGTHS, long_files())]:
            rows = written(lengths, files)
            for which, its in enumerate(rows):
                for place in range(len(its)):
                    for other in others:
                        turned = [list(row) for row in rows]
                        turned[which][place] = other
                        self.assert_read_as(lengths, turned)

    def test_each_sign_of_each_label_turned(self):
        for lengths, files in [([1000], three_files()), (LONG_LENGTHS, long_files())]:
            rows = written(lengths, files)
            for which, its in enumerate(rows):
                for place, row in enumerate(its):
                    if row and row[:3] in ("VOL", "HDR", "EOF", "EOV"):
                        for at in range(len(row)):
                            for sign in "019AFVZa ":
                                turned = [list(row) for row in rows]
                                turned[which][place] = row[:at] + sign + row[at + 1:]
                                self.assert_read_as(lengths, turned)

    def test_torn_at_each_place(self):
        for lengths, files in [([1000], three_files()), (LONG_LENGTHS, long_files())]:
            rows = written(lengths, files)
            for which, its in enumerate(rows):
                for place in range(len(its)):
                    turned = [list(row) for row in rows]
                    del turned[which][place:]
                    self.assert_read_as(lengths, turned)

    def test_a_mark_put_in_at_each_place(self):
        rows = written(LONG_LENGTHS, long_files())
        for which, its in enumerate(rows):
            for place in range(len(its) + 1):
                for other in [None, "x"]:
                    turned = [list(row) for row in rows]
                    turned[which].insert(place, other)
                    self.assert_read_as(LONG_LENGTHS, turned)


class TestLabelsThatAreDue(ReadingCase):
    def one_file(self, head=(), end=()):
        """A reel with one file, in whose labels some fields are others."""
        told = dict(zip(FIELDS, ("PAY", "R1", 1, 1, 7, 3, 5, 9, 0)))
        head = {**told, **dict(head)}
        end = {**told, "blocks": 2, **dict(end)}
        return [[
            vol("R1"), label("HDR1", *head.values()), hdr2(("F", 20, 20)), None, *twenties(2), None,
            label("EOF1", *end.values()), None, None,
        ]]

    def test_an_end_label_that_differs_in_one_field(self):
        self.assert_good([1000], self.one_file())
        for field, other in zip(FIELDS, ["PAX", "R2", 2, 2, 8, 4, 6, 0, 1]):
            self.assert_bad([1000], self.one_file(end={field: other}))
        for field, other in zip(FIELDS, ["P", "R", 0, 0, 6, 2, 4, 8, 3]):
            self.assert_bad([1000], self.one_file(end={field: other}))

    def test_a_head_label_that_differs_in_one_field(self):
        for field, other in zip(FIELDS, ["PAX", "R2", 2, 2, 8, 4, 6, 0, 1]):
            self.assert_bad([1000], self.one_file(head={field: other}))

    def test_both_labels_differ_from_what_is_due(self):
        for field, other in [("first", "R2"), ("first", "R"), ("volume", 0), ("volume", 2), ("number", 0), ("number", 2)]:
            self.assert_bad([1000], self.one_file(head={field: other}, end={field: other}))
        for field, other in [("name", "X"), ("generation", 0), ("version", 99), ("made", 0), ("end", 99999)]:
            self.assert_good([1000], self.one_file(head={field: other}, end={field: other}))

    def test_a_head_with_blocks(self):
        for many in [1, 2, 999999]:
            self.assert_bad([1000], self.one_file(head={"blocks": many}))

    def test_blocks_are_counted(self):
        for many in [0, 1, 3, 999999]:
            self.assert_bad([1000], self.one_file(end={"blocks": many}))

    def test_kinds_of_labels(self):
        for place, kind in [(1, "EOF1"), (1, "EOV1"), (7, "HDR1")]:
            rows = self.one_file()
            rows[0][place] = kind + rows[0][place][4:]
            self.assert_bad([1000], rows)
        rows = self.one_file()
        rows[0][7] = "EOV1" + rows[0][7][4:]
        self.assert_bad([1000], rows, "NoReel")

    def test_a_second_file_with_another_number(self):
        rows = written([1000], three_files())
        for number in [1, 3, 0, 9999]:
            turned = [list(rows[0])]
            for place, row in enumerate(turned[0]):
                if row and row[4:8] == "NONE":
                    turned[0][place] = row[:22] + "%04d" % number + row[26:]
            self.assert_bad([1000], turned)

    def test_a_next_piece_that_differs_from_the_first_one(self):
        # Both labels of the second piece are alike, but not what the first piece tells.
        file = File("LONG", twenties(5), told=(1, 2, 3, 4))
        rows = written([150, 150], [file])
        self.assert_good([150, 150], rows)
        for start, figures in [(4, "LONX"), (12, "R2    "), (18, "0003"), (18, "0001"), (22, "0002"), (26, "0002"), (30, "03"),
                               (32, "00004"), (37, "00005")]:
            turned = [list(row) for row in rows]
            for place, row in enumerate(turned[1]):
                if row and row[:4] in ("HDR1", "EOF1"):
                    turned[1][place] = row[:start] + figures + row[start + len(figures):]
            self.assert_bad([150, 150], turned)
        for form in [("F", 20, 10), ("F", 40, 20), ("V", 20, 17), ("S", 20, 20)]:
            turned = [list(row) for row in rows]
            turned[1][2] = hdr2(form)
            self.assert_bad([150, 150], turned)

    def test_forms_that_are_none(self):
        for text in ["HDR2F020021", "HDR2V020018", "HDR2S061100", "HDR2F004004", "HDR2X020020", "HDR2F020"]:
            rows = self.one_file()
            rows[0][2] = text
            self.assert_bad([1000], rows)

    def test_the_second_mark(self):
        rows = written([1000], three_files())
        self.assert_good([1000], rows)
        self.assert_good([1000], [rows[0] + ["x", None]])
        self.assert_bad([1000], [rows[0][:-1]])
        self.assert_bad([1000], [rows[0][:-2]])
        self.assert_bad([1000], [rows[0][:-1] + ["x"]])
        # Behind "EOV1" the second one is not looked for, but the first one is.
        rows = written(LONG_LENGTHS, long_files())
        self.assertEqual(rows[0][-2:], [None, None])
        self.assert_good(LONG_LENGTHS, [rows[0][:-1]] + rows[1:])
        self.assert_good(LONG_LENGTHS, [rows[0][:-1] + ["x"]] + rows[1:])
        self.assert_bad(LONG_LENGTHS, [rows[0][:-2]] + rows[1:])
        self.assert_bad(LONG_LENGTHS, [rows[0][:-2] + ["x", None, None]] + rows[1:])


class TestReelsOfASetThatIsRead(ReadingCase):
    def test_reels_in_another_order(self):
        tapes, reels = set_with(LONG_LENGTHS, long_files())
        for order in [(1, 0, 2, 3), (0, 2, 1, 3), (3, 2, 1, 0), (1, 2, 3, 0), (3, 0, 1, 2), (0, 1, 3, 2)]:
            other = TapeSet([reels[which] for which in order])
            for deed, *given in [(other.count,), (other.listed,), (other.get, 1), (other.put, "A", []), (other.more, [])]:
                self.assert_refused(BadLabel, reels, deed, *given)

    def test_a_file_that_goes_on_beyond_the_last_reel(self):
        tapes, reels = set_with(LONG_LENGTHS, long_files())
        for many in [1, 2, 3]:
            other = TapeSet(reels[:many])
            go_to(reels, [4, 5, 6, 7])
            for deed, *given in [
                (other.count,), (other.listed,), (other.get, 1), (other.get, 9), (other.get_back, 1), (other.put, "A", []),
                (other.over, 1, "A", []), (other.over, 9, "A", []), (other.more, []), (other.more, None),
            ]:
                self.assert_refused(NoReel, reels, deed, *given)

    def test_first_reels_left_out(self):
        tapes, reels = set_with(LONG_LENGTHS, long_files())
        for some in [reels[1:], reels[2:], reels[3:]]:
            self.assert_refused(BadLabel, reels, TapeSet(some).count)

    def test_a_next_reel_without_its_label(self):
        rows = written(LONG_LENGTHS, long_files())
        for wrong in [vol("R1"), vol("R3"), "x", None, hdr2(("F", 20, 20))]:
            turned = [list(row) for row in rows]
            turned[1][0] = wrong
            self.assert_bad(LONG_LENGTHS, turned)
        self.assert_bad(LONG_LENGTHS, [rows[0], rows[1][1:]] + rows[2:])
        self.assert_bad(LONG_LENGTHS, [rows[0], []] + rows[2:])

    def test_a_next_reel_that_is_new(self):
        rows = written(LONG_LENGTHS, long_files())
        self.assert_bad(LONG_LENGTHS, [rows[0], [vol("R2"), None, None]] + rows[2:])

    def test_labels_of_another_set(self):
        file = File("A", twenties(5))
        tapes, reels = set_with([150, 150], [file])
        other = [row if row is None else row.replace("R1    0", "R9    0") for row in reels[1].content()]
        load(reels[1], other)
        self.assert_refused(BadLabel, reels, tapes.count)

    def test_reels_that_are_not_gone_on_to_are_never_read(self):
        file = File("A", twenties(2))
        for rest in [[], ["x"], [None], [vol("R9")], written([150, 150], [File("A", twenties(5))])[1]]:
            rows = [written([150], [file])[0], rest]
            self.assert_good([150, 150], rows)


if __name__ == "__main__":
    unittest.main()
