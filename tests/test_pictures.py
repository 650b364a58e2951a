"""Pictures of what stands on reels, and how much tape it takes: points [1], [2], [6], [7] and [8] of the document."""

import unittest

from reelrows.errors import BadReel
from reelrows.pictures import picture, tape_used
from reelrows.reels import Reel
from reelrows.sets import TapeSet
from tests.taping import (
    File, TapeCase, go_to, label, load, places, reels_of, set_of, set_with, states, tape, twenties, vol, written,
)
from tests.test_chains import NO_SETS
from tests.wrong import NO_LISTS, NO_TEXTS

NO_REELS = NO_LISTS + NO_TEXTS + [[], Reel, reels_of([500]), tuple(reels_of([500])), TapeSet(reels_of([500]))]


def reel_with(rows, length=5000):
    reel = Reel("A1", length=length)
    load(reel, rows)
    return reel


def texts_of(rows):
    """The picture of these rows, put together piece by piece."""
    texts = []
    for row in rows:
        told = "mark" if row is None else " ".join([str(len(row)), row])
        texts.append(": ".join([str(len(texts)), told]))
    return texts


class TestPicture(TapeCase):
    def test_a_reel_without_a_row(self):
        self.assertEqual(picture(Reel("A1", length=150)), [])

    def test_a_label_a_mark_and_a_short_block(self):
        reel = reel_with(["VOL1A     NOBODY  ", None, "ab"])
        self.assertEqual(picture(reel), ["0: 18 VOL1A     NOBODY  ", "1: mark", "2: 2 ab"])

    def test_marks_side_by_side(self):
        self.assertEqual(picture(reel_with([None])), ["0: mark"])
        self.assertEqual(picture(reel_with([None, None, None])), ["0: mark", "1: mark", "2: mark"])
        wanted = ["0: mark", "1: mark", "2: 1 A", "3: mark", "4: mark"]
        self.assertEqual(picture(reel_with([None, None, "A", None, None])), wanted)

    def test_blocks_that_look_like_words_of_a_picture(self):
        rows = ["mark", "block", "0: mark", "4 mark", ": ", "7"]
        wanted = ["0: 4 mark", "1: 5 block", "2: 7 0: mark", "3: 6 4 mark", "4: 2 : ", "5: 1 7"]
        self.assertEqual(picture(reel_with(rows)), wanted)

    def test_each_block_of_one_sign(self):
        signs = [bytes([code]).decode() for code in range(32, 127)]
        wanted = [str(place) + ": 1 " + sign for place, sign in enumerate(signs)]
        self.assertEqual(picture(reel_with(signs)), wanted)
        self.assertEqual(wanted[0], "0: 1  ")

    def test_each_length_of_a_block(self):
        for signs in range(1, 100):
            block = "".join(bytes([33 + number % 94]).decode() for number in range(signs))
            self.assertEqual(picture(reel_with([block])), ["0: " + str(signs) + " " + block])

    def test_the_longest_block(self):
        block = "a" + "b" * 97 + "c"
        self.assertEqual(picture(reel_with([None, block])), ["0: mark", "1: 99 a" + "b" * 97 + "c"])

    def test_blocks_of_blanks(self):
        self.assertEqual(picture(reel_with(["   ", " "])), ["0: 3    ", "1: 1  "])
        for signs in range(1, 100):
            told = picture(reel_with([None, " " * signs]))
            self.assertEqual(told, ["0: mark", "1: " + str(signs) + " " * (signs + 1)])

    def test_blanks_at_both_ends_of_a_block(self):
        wanted = ["0: 5   A  ", "1: 2  B", "2: 2 C ", "3: 4 D  E"]
        self.assertEqual(picture(reel_with(["  A  ", " B", "C ", "D  E"])), wanted)

    def test_as_much_as_a_reel_holds(self):
        for row, text in ((None, "mark"), ("x", "1 x")):
            told = picture(reel_with([row] * 1350))
            self.assertEqual(len(told), 1350)
            # Row by row, for the difference of two lists so long takes minutes to be worked out.
            for place in range(1350):
                self.assertEqual(told[place], "%d: %s" % (place, text))

    def test_the_place_stays_where_it_is(self):
        rows = ["A", None, "BC", None, None]
        wanted = ["0: 1 A", "1: mark", "2: 2 BC", "3: mark", "4: mark"]
        reel = reel_with(rows)
        for place in range(len(rows) + 1):
            for is_in in (True, False):
                go_to([reel], [place])
                reel.ring(is_in)
                before = states([reel])
                self.assertEqual(picture(reel), wanted)
                self.assertEqual(states([reel]), before)

    def test_what_is_lost_is_not_shown(self):
        reel = reel_with(["A", None, "BC", None])
        go_to([reel], [1])
        reel.write("XYZ")
        self.assertEqual(picture(reel), ["0: 1 A", "1: 3 XYZ"])
        reel.tear(1)
        self.assertEqual(picture(reel), ["0: 1 A"])
        reel.tear(0)
        self.assertEqual(picture(reel), [])

    def test_no_reels(self):
        for thing in NO_REELS:
            self.assert_refused(BadReel, [], picture, thing)

    def test_new_lists(self):
        reel = reel_with(["A", None])
        told = picture(reel)
        self.assertIs(type(told), list)
        told.append("X")
        self.assertEqual(picture(reel), ["0: 1 A", "1: mark"])


class TestPicturesOfSets(TapeCase):
    """What stands on each reel of a set, label by label and block by block."""

    def assert_pictures(self, reels, wanted):
        self.assertEqual([picture(reel) for reel in reels], [texts_of(rows) for rows in wanted])

    def test_new_reels(self):
        tapes, reels = set_with([150, 5000], [], owner="ME")
        self.assertEqual(picture(reels[0]), ["0: 18 VOL1R1    ME      ", "1: mark", "2: mark"])
        self.assertEqual(picture(reels[1]), ["0: 18 VOL1R2    ME      ", "1: mark", "2: mark"])

    def test_a_file_by_hand(self):
        tapes, reels = set_with([1000], [])
        tapes.put("PAY", ["ANN 1", "BOB  "], generation=3, version=4, day=5, ends=90)
        self.assertEqual(picture(reels[0]), [
            "0: 18 VOL1R1    NOBODY  ",
            "1: 48 HDR1PAY     R1    000100010003040000500090000000",
            "2: 11 HDR2V040030",
            "3: mark",
            "4: 16 005ANN 1005BOB  ",
            "5: mark",
            "6: 48 EOF1PAY     R1    000100010003040000500090000001",
            "7: mark",
            "8: mark",
        ])

    def test_one_file_behind_the_other(self):
        tapes, reels = set_with([1000], [File("A", twenties(2)), File("B", [])])
        tapes.put("C", ["XY"])
        files = [File("A", twenties(2)), File("B", []), File("C", ["002XY"], ("V", 40, 30))]
        self.assert_pictures(reels, written([1000], files))

    def test_a_file_over_three_reels(self):
        tapes, reels = set_with([150, 160, 5000], [File("A", twenties(7))])
        # 90 are used ahead of the first block, and 23 by each: a next one is put up to 149, or 159, of them.
        self.assert_pictures(reels, [
            [vol("R1"), label("HDR1", "A", "R1", 1, 1, 0, 0, 1, 0, 0), "HDR2F020020", None] + twenties(3)
            + [None, label("EOV1", "A", "R1", 1, 1, 0, 0, 1, 0, 3), None, None],
            [vol("R2"), label("HDR1", "A", "R1", 2, 1, 0, 0, 1, 0, 0), "HDR2F020020", None] + twenties(4, 3)
            + [None, label("EOF1", "A", "R1", 2, 1, 0, 0, 1, 0, 4), None, None],
            [vol("R3"), None, None],
        ])
        self.assertEqual(tape_used(tapes), [("R1", 222, 150), ("R2", 245, 160), ("R3", 29, 5000)])

    def test_each_length_of_a_reel(self):
        for length in range(150, 200):
            tapes, reels = set_with([length, 5000], [File("A", twenties(9))])
            many = next(many for many in range(10) if 90 + 23 * many >= length)
            self.assert_pictures(reels, written([length, 5000], [File("A", twenties(9))]))
            self.assertEqual([row[1] for row in tape_used(tapes)], [153 + 23 * many, 153 + 23 * (9 - many)])


class TestTapeUsed(TapeCase):
    def test_new_sets(self):
        for lengths in ([150], [5000, 150], [151, 152, 153, 154, 155, 156]):
            tapes, reels = set_with(lengths, [])
            wanted = [("R%d" % number, 29, length) for number, length in enumerate(lengths, 1)]
            self.assertEqual(tape_used(tapes), wanted)

    def test_reels_without_a_row_and_with_any_rows(self):
        tapes, reels = set_of([150, 200, 250], [[], ["A", None, "B" * 99], [None]])
        self.assertEqual(tape_used(tapes), [("R1", 0, 150), ("R2", 110, 200), ("R3", 4, 250)])

    def test_files(self):
        files = [File("A", twenties(20)), File("B", []), File("C", twenties(9))]
        for lengths in ([5000], [400, 400, 400], [300, 500, 150, 700]):
            tapes, reels = set_with(lengths, [])
            for number, file in enumerate(files, 1):
                file.put_on(tapes)
                rows = written(lengths, files[:number])
                wanted = [(reel.called(), tape(its), length) for reel, its, length in zip(reels, rows, lengths)]
                self.assertEqual(tape_used(tapes), wanted)

    def test_by_hand(self):
        tapes, reels = set_with([1000], [])
        tapes.put("A", ["ONE"])
        # The own label 21, the head 51, the form 14, a mark 4, the block 9, a mark 4, the end 51, two marks 8.
        self.assertEqual(tape_used(tapes), [("R1", 162, 1000)])
        tapes.put("B", [])
        self.assertEqual(tape_used(tapes), [("R1", 162 + 128, 1000)])
        tapes.over(2, "C", ["ONE", "TWO"])
        self.assertEqual(tape_used(tapes), [("R1", 162 + 128 + 15, 1000)])
        tapes.more(["X"])
        self.assertEqual(tape_used(tapes), [("R1", 162 + 128 + 15 + 7, 1000)])

    def test_torn_reels(self):
        files = [File("A", twenties(20))]
        rows = written([300, 300], files)
        for place in range(len(rows[0]) + 1):
            tapes, reels = set_of([300, 300], rows)
            reels[0].tear(place)
            self.assertEqual(tape_used(tapes), [("R1", tape(rows[0][:place]), 300), ("R2", tape(rows[1]), 300)])

    def test_a_set_at_the_end_of_its_tape(self):
        tapes, reels = set_of([150], [["x" * 99] * 5 + [None] * 10])
        self.assertEqual(tape_used(tapes), [("R1", 550, 150)])

    def test_all_on_it_wherever_the_place_is(self):
        rows = written([300, 300], [File("A", twenties(20))])
        tapes, reels = set_of([300, 300], rows)
        wanted = [("R1", tape(rows[0]), 300), ("R2", tape(rows[1]), 300)]
        for place in range(len(rows[1]) + 1):
            go_to(reels, [place, len(rows[1]) - place])
            reels[0].ring(place % 2 == 0)
            before = states(reels)
            self.assertEqual(tape_used(tapes), wanted)
            self.assertEqual(states(reels), before)

    def test_reels_in_the_order_of_the_set(self):
        reels = reels_of([150, 200, 250])
        self.assertEqual([row[0] for row in tape_used(TapeSet(reels[::-1]))], ["R3", "R2", "R1"])

    def test_no_sets(self):
        for thing in NO_SETS:
            self.assert_refused(BadReel, [], tape_used, thing)

    def test_new_lists(self):
        tapes, reels = set_with([150, 200], [])
        told = tape_used(tapes)
        self.assertIs(type(told), list)
        for row in told:
            self.assertIs(type(row), tuple)
            self.assertEqual([type(thing) for thing in row], [str, int, int])
        told.pop()
        self.assertEqual(tape_used(tapes), [("R1", 29, 150), ("R2", 29, 200)])
        self.assertEqual(places(reels), [0, 0])


if __name__ == "__main__":
    unittest.main()
