"""A reel: points [1], [2] and [3] of the document."""

import copy
import inspect
import itertools
import unittest

from reelrows.errors import AtEnd, AtStart, BadName, BadNumber, NoRing, ReelError, TooLong
from reelrows.reels import Reel
from tests.wrong import NO_TEXTS, NO_WHOLE_NUMBERS

ALL_SIGNS = "".join(chr(code) for code in range(ord(" "), ord("~") + 1))

METHODS = [
    "ring", "write", "write_mark", "read", "read_back", "rewind", "skip", "skip_marks",
    "at", "used", "is_near_end", "content", "tear", "called",
]


def reel_of(rows, *, length=5000, place=None):
    reel = Reel("A1", length=length)
    for row in rows:
        if row is None:
            reel.write_mark()
        else:
            reel.write(row)
    if place is not None:
        reel.rewind()
        for _ in range(place):
            reel.read()
    return reel


def filled(length, tape):
    """A reel of this length with just so much tape ahead of its place."""
    reel = Reel("A1", length=length)
    left = tape
    while left > 102 + 4:
        reel.write("x" * 99)
        left -= 102
    while left > 8 or left == 4:
        reel.write_mark()
        left -= 4
    if left:
        reel.write("y" * (left - 3))
    assert reel.used() == tape, (reel.used(), tape)
    return reel


def has_ring(reel):
    # A deep copy would do as well, but this is asked so often that it must be quick.
    twin = copy.copy(reel)
    for name, value in vars(reel).items():
        if isinstance(value, list):
            setattr(twin, name, list(value))
    twin.rewind()
    try:
        twin.write_mark()
    except NoRing:
        return False
    return True


def state(reel):
    return (
        reel.content(), reel.at(), reel.used(), reel.is_near_end(), reel.called(), has_ring(reel),
    )


class ReelCase(unittest.TestCase):
    def assert_refused(self, refusal, reel, deed, *given):
        """The deed is refused just so, and the reel is as it was."""
        before = state(reel)
        with self.assertRaises(ReelError) as caught:
            getattr(reel, deed)(*given)
        self.assertIs(type(caught.exception), refusal)
        self.assertEqual(state(reel), before)


class TestInterface(unittest.TestCase):
    def test_methods_stand_in_the_class_itself(self):
        for name in METHODS:
            self.assertIn(name, vars(Reel))

    def test_length_is_handed_in_by_its_name_alone(self):
        with self.assertRaises(TypeError):
            Reel("A", 200)
        with self.assertRaises(TypeError):
            Reel("A")
        parameter = inspect.signature(Reel).parameters["length"]
        self.assertIs(parameter.kind, inspect.Parameter.KEYWORD_ONLY)
        self.assertIs(parameter.default, inspect.Parameter.empty)


class TestNewReel(ReelCase):
    def assert_no_reel(self, refusal, serial, length):
        with self.assertRaises(ReelError) as caught:
            Reel(serial, length=length)
        self.assertIs(type(caught.exception), refusal, (serial, length))

    def test_a_new_reel(self):
        reel = Reel("TAPE01", length=200)
        self.assertEqual(reel.called(), "TAPE01")
        self.assertEqual(reel.content(), [])
        self.assertEqual(reel.at(), 0)
        self.assertEqual(reel.used(), 0)
        self.assertIs(reel.is_near_end(), False)
        self.assertTrue(has_ring(reel))

    def test_serials(self):
        for serial in ["A", "Z", "0", "9", "000000", "ABCDEF", "A1B2C3", "Z9"]:
            self.assertEqual(Reel(serial, length=150).called(), serial)
        for sign in "ABCDEFGHIJKLMNOPQRSTUVWXYZ0123456789":
            self.assertEqual(Reel(sign, length=150).called(), sign)

    def test_no_serials(self):
        for serial in ["", "ABCDEFG", "0000000", "a", "Az", " ", "A ", " A", "A B", "A-1", "A_", "@", "[", "/", ":"]:
            self.assert_no_reel(BadName, serial, 150)
        for sign in ALL_SIGNS:
            if not ("A" <= sign <= "Z" or "0" <= sign <= "9"):
                self.assert_no_reel(BadName, sign, 150)
                self.assert_no_reel(BadName, "A" + sign, 150)
                self.assert_no_reel(BadName, sign + "7", 150)
        for serial in NO_TEXTS:
            self.assert_no_reel(BadName, serial, 150)

    def test_lengths(self):
        for length in [150, 151, 1000, 4999, 5000]:
            reel = Reel("A", length=length)
            self.assertEqual(reel.content(), [])

    def test_no_lengths(self):
        for length in [149, 5001, 0, -150, 10 ** 5000, -10 ** 5000] + NO_WHOLE_NUMBERS:
            self.assert_no_reel(BadNumber, "A", length)

    def test_the_serial_is_looked_at_first(self):
        for serial, length in itertools.product(["", "a", None, 7], [149, 5001, True, None, "200"]):
            self.assert_no_reel(BadName, serial, length)


class TestRing(ReelCase):
    def test_the_ring_is_there_at_first_and_can_be_taken_out_and_put_in(self):
        reel = Reel("A", length=150)
        self.assertIsNone(reel.write("one"))
        self.assertIsNone(reel.ring(False))
        self.assert_refused(NoRing, reel, "write", "two")
        self.assert_refused(NoRing, reel, "write_mark")
        self.assertIsNone(reel.ring(False))
        self.assert_refused(NoRing, reel, "write", "two")
        self.assertIsNone(reel.ring(True))
        self.assertIsNone(reel.write("two"))
        self.assertIsNone(reel.write_mark())
        self.assertEqual(reel.content(), ["one", "two", None])

    def test_without_its_ring_all_else_is_done(self):
        reel = reel_of(["one", None, "two"])
        reel.ring(False)
        self.assertEqual(reel.read_back(), "two")
        self.assertEqual(reel.skip_marks(-1), 1)
        self.assertEqual(reel.skip(-5), 1)
        self.assertEqual(reel.read(), "one")
        reel.rewind()
        reel.tear(2)
        self.assertEqual(reel.content(), ["one", None])
        self.assertFalse(has_ring(reel))

    def test_the_ring_changes_nothing_else(self):
        reel = reel_of(["one", None, "two"], place=1)
        before = state(reel)[:5]
        reel.ring(False)
        self.assertEqual(state(reel)[:5], before)
        reel.ring(True)
        self.assertEqual(state(reel)[:5], before)


class TestWrite(ReelCase):
    def test_what_blocks_and_marks_take(self):
        for many in range(1, 100):
            reel = Reel("A", length=150)
            reel.write("x" * many)
            self.assertEqual(reel.used(), many + 3)
        reel = Reel("A", length=150)
        reel.write_mark()
        self.assertEqual(reel.used(), 4)
        reel.write("abc")
        self.assertEqual(reel.used(), 10)
        reel.write_mark()
        self.assertEqual(reel.used(), 14)
        self.assertEqual(reel.at(), 3)

    def test_blocks_with_all_signs(self):
        for sign in ALL_SIGNS:
            reel = reel_of([sign, sign * 99], place=0)
            self.assertEqual(reel.read(), sign)
            self.assertEqual(reel.read(), sign * 99)
        self.assertEqual(reel_of([ALL_SIGNS]).content(), [ALL_SIGNS])

    def test_no_blocks(self):
        reel = reel_of(["one", None, "two"], place=1)
        for block in ["", "x" * 100, "x" * 101, " " * 100] + NO_TEXTS:
            self.assert_refused(BadName, reel, "write", block)

    def test_a_write_in_the_midst_loses_all_behind(self):
        rows = ["one", None, "three", "four", None]
        for place in range(len(rows) + 1):
            reel = reel_of(rows, place=place)
            used = reel.used()
            reel.write("new")
            self.assertEqual(reel.content(), rows[:place] + ["new"])
            self.assertEqual(reel.at(), place + 1)
            self.assertEqual(reel.used(), used + 6)
            with self.assertRaises(AtEnd):
                reel.read()
            self.assertEqual(reel.read_back(), "new")
            reel = reel_of(rows, place=place)
            reel.write_mark()
            self.assertEqual(reel.content(), rows[:place] + [None])
            self.assertEqual(reel.at(), place + 1)
            self.assertEqual(reel.used(), used + 4)

    def test_tape_lost_can_be_written_again(self):
        reel = filled(150, 550)
        self.assert_refused(TooLong, reel, "write_mark")
        reel.rewind()
        reel.write("x")
        self.assertEqual(reel.used(), 4)
        for _ in range(5):
            reel.write("x" * 99)
        self.assertEqual(reel.used(), 514)


class TestNearEnd(ReelCase):
    def test_just_at_below_and_above_the_length(self):
        for length in [150, 151, 333, 5000]:
            for beyond, near in [(-1, False), (0, True), (1, True), (400, True), (-100, False)]:
                self.assertIs(filled(length, length + beyond).is_near_end(), near, (length, beyond))

    def test_by_the_place_not_by_all_that_stands(self):
        reel = reel_of(["x" * 97, "y" * 47, "z"], length=150)
        self.assertEqual((reel.used(), reel.is_near_end()), (154, True))
        reel.read_back()
        self.assertEqual((reel.used(), reel.is_near_end()), (150, True))
        reel.read_back()
        self.assertEqual((reel.used(), reel.is_near_end()), (100, False))
        reel.read()
        self.assertIs(reel.is_near_end(), True)
        reel.rewind()
        self.assertEqual((reel.used(), reel.is_near_end()), (0, False))


class TestLimit(ReelCase):
    def test_a_block_up_to_the_limit(self):
        for length in [150, 151, 777, 5000]:
            for many in [1, 2, 50, 99]:
                reel = filled(length, length + 400 - many - 3)
                reel.write("z" * many)
                self.assertEqual(reel.used(), length + 400)
                reel = filled(length, length + 401 - many - 3)
                self.assert_refused(TooLong, reel, "write", "z" * many)

    def test_a_mark_up_to_the_limit(self):
        for length in [150, 151, 777, 5000]:
            reel = filled(length, length + 396)
            reel.write_mark()
            self.assertEqual(reel.used(), length + 400)
            self.assert_refused(TooLong, reel, "write_mark")
            self.assert_refused(TooLong, reel, "write", "z")
            reel = filled(length, length + 397)
            self.assert_refused(TooLong, reel, "write_mark")
            self.assert_refused(TooLong, reel, "write", "z")

    def test_too_long_in_the_midst_loses_nothing(self):
        reel = reel_of(["x" * 99] * 5 + ["y" * 30, "z"], length=150, place=6)
        self.assertEqual(reel.used(), 543)
        self.assert_refused(TooLong, reel, "write", "w" * 5)
        reel.write("w" * 4)
        self.assertEqual(reel.content(), ["x" * 99] * 5 + ["y" * 30, "wwww"])


class TestOrderOfRefusals(ReelCase):
    def test_write(self):
        full = filled(150, 550)
        self.assert_refused(TooLong, full, "write", "x")
        self.assert_refused(BadName, full, "write", "")
        self.assert_refused(BadName, full, "write", None)
        full.ring(False)
        self.assert_refused(NoRing, full, "write", "x")
        self.assert_refused(BadName, full, "write", "")
        self.assert_refused(BadName, full, "write", "x" * 100)
        self.assert_refused(NoRing, full, "write_mark")
        full.ring(True)
        self.assert_refused(TooLong, full, "write_mark")


class TestRead(ReelCase):
    def test_read_forth_and_back(self):
        rows = ["one", None, "three", None, None, "six"]
        reel = reel_of(rows, place=0)
        for place, row in enumerate(rows):
            self.assertEqual(reel.at(), place)
            self.assertEqual(reel.read(), row)
        self.assertEqual(reel.at(), 6)
        self.assert_refused(AtEnd, reel, "read")
        for place, row in reversed(list(enumerate(rows))):
            self.assertEqual(reel.read_back(), row)
            self.assertEqual(reel.at(), place)
        self.assert_refused(AtStart, reel, "read_back")
        self.assertEqual(reel.content(), rows)

    def test_a_new_reel_has_nothing_to_read(self):
        reel = Reel("A", length=150)
        self.assert_refused(AtEnd, reel, "read")
        self.assert_refused(AtStart, reel, "read_back")

    def test_rewind(self):
        reel = reel_of(["one", None, "three"])
        for _ in range(2):
            self.assertIsNone(reel.rewind())
            self.assertEqual((reel.at(), reel.used()), (0, 0))
            self.assertEqual(reel.content(), ["one", None, "three"])
        self.assertIsNone(Reel("A", length=150).rewind())

    def test_content_is_a_new_list(self):
        reel = reel_of(["one", None], place=1)
        told = reel.content()
        told.append("two")
        told[0] = "none"
        self.assertEqual(reel.content(), ["one", None])
        self.assertIsNot(reel.content(), reel.content())
        kept = reel.content()
        reel.write("new")
        self.assertEqual(kept, ["one", None])


class TestSkip(ReelCase):
    def assert_skip(self, reel, deed, many, told, place):
        content = reel.content()
        found = getattr(reel, deed)(many)
        self.assertEqual((found, reel.at()), (told, place), (content, deed, many))
        self.assertIs(type(found), int)
        self.assertEqual(reel.content(), content)

    def test_skip_on(self):
        rows = ["a", "b", None, "c", None, None, "d", "e"]
        for place, many, told, there in [
            (0, 0, 0, 0), (2, 0, 0, 2), (8, 0, 0, 8),
            (0, 1, 1, 1), (0, 2, 2, 2), (0, 3, 2, 3), (0, 5000, 2, 3),
            (2, 1, 0, 3), (2, 5, 0, 3), (3, 1, 1, 4), (3, 2, 1, 5), (4, 3, 0, 5), (5, 3, 0, 6),
            (6, 1, 1, 7), (6, 2, 2, 8), (6, 3, 2, 8), (6, 5000, 2, 8), (8, 1, 0, 8), (8, 5000, 0, 8),
        ]:
            self.assert_skip(reel_of(rows, place=place), "skip", many, told, there)

    def test_skip_back(self):
        rows = ["a", "b", None, "c", None, None, "d", "e"]
        for place, many, told, there in [
            (8, -1, 1, 7), (8, -2, 2, 6), (8, -3, 2, 5), (8, -5000, 2, 5),
            (6, -1, 0, 5), (5, -4, 0, 4), (4, -1, 1, 3), (4, -2, 1, 2), (3, -2, 0, 2),
            (2, -1, 1, 1), (2, -2, 2, 0), (2, -3, 2, 0), (2, -5000, 2, 0), (0, -1, 0, 0), (0, -5000, 0, 0),
        ]:
            self.assert_skip(reel_of(rows, place=place), "skip", many, told, there)

    def test_skip_marks_on(self):
        rows = ["a", "b", None, "c", None, None, "d", "e"]
        for place, many, told, there in [
            (0, 0, 0, 0), (2, 0, 0, 2), (8, 0, 0, 8),
            (0, 1, 1, 3), (0, 2, 2, 5), (0, 3, 3, 6), (0, 4, 3, 8), (0, 5000, 3, 8),
            (2, 1, 1, 3), (3, 1, 1, 5), (5, 1, 1, 6), (6, 1, 0, 8), (7, 5000, 0, 8), (8, 1, 0, 8),
        ]:
            self.assert_skip(reel_of(rows, place=place), "skip_marks", many, told, there)

    def test_skip_marks_back(self):
        rows = ["a", "b", None, "c", None, None, "d", "e"]
        for place, many, told, there in [
            (8, -1, 1, 5), (8, -2, 2, 4), (8, -3, 3, 2), (8, -4, 3, 0), (8, -5000, 3, 0),
            (5, -1, 1, 4), (4, -1, 1, 2), (3, -1, 1, 2), (2, -1, 0, 0), (1, -5000, 0, 0), (0, -1, 0, 0),
        ]:
            self.assert_skip(reel_of(rows, place=place), "skip_marks", many, told, there)

    def test_all_short_reels(self):
        for many_rows in range(5):
            for rows in itertools.product(["x", None], repeat=many_rows):
                rows = list(rows)
                for place in range(many_rows + 1):
                    for many in [-5000, -4, -3, -2, -1, 0, 1, 2, 3, 4, 5000]:
                        self.check_against_the_rows(rows, place, many)

    def check_against_the_rows(self, rows, place, many):
        way = rows[place:] if many > 0 else rows[:place][::-1]
        turn = 1 if many > 0 else -1
        blocks = len(way) if None not in way else way.index(None)
        if blocks < abs(many):
            steps = min(blocks + 1, len(way))
        else:
            blocks = steps = abs(many)
        self.assert_skip(reel_of(rows, place=place), "skip", many, blocks, place + turn * steps)
        marks = [number + 1 for number, row in enumerate(way) if row is None]
        if many == 0:
            steps = 0
        elif len(marks) >= abs(many):
            steps = marks[abs(many) - 1]
        else:
            steps = len(way)
        told = min(len(marks), abs(many))
        self.assert_skip(reel_of(rows, place=place), "skip_marks", many, told, place + turn * steps)

    def test_as_many_as_a_reel_holds(self):
        blocks = Reel("A", length=5000)
        marks = Reel("A", length=5000)
        for _ in range(1350):
            blocks.write("x")
            marks.write_mark()
        self.assert_skip(blocks, "skip", -5000, 1350, 0)
        self.assert_skip(blocks, "skip", 1350, 1350, 1350)
        self.assert_skip(marks, "skip_marks", -5000, 1350, 0)
        self.assert_skip(marks, "skip_marks", 1349, 1349, 1349)

    def test_no_numbers(self):
        for deed in ["skip", "skip_marks"]:
            for place in range(4):
                reel = reel_of(["one", None, "three"], place=place)
                for many in [5001, -5001, 10 ** 5000, -10 ** 5000] + NO_WHOLE_NUMBERS:
                    self.assert_refused(BadNumber, reel, deed, many)

    def test_used_follows_the_place(self):
        reel = reel_of(["aa", None, "bbbb", None], place=0)
        reel.skip(9)
        self.assertEqual((reel.at(), reel.used()), (2, 9))
        reel.skip(9)
        self.assertEqual((reel.at(), reel.used()), (4, 20))
        reel.skip_marks(-2)
        self.assertEqual((reel.at(), reel.used()), (1, 5))


class TestTear(ReelCase):
    def test_tear(self):
        rows = ["one", None, "three", "four", None]
        for place in range(6):
            for at in range(6):
                reel = reel_of(rows, place=place)
                self.assertIsNone(reel.tear(at))
                self.assertEqual(reel.content(), rows[:at])
                self.assertEqual((reel.at(), reel.used(), reel.is_near_end()), (0, 0, False))
                self.assertTrue(has_ring(reel))
                self.assertEqual(reel.called(), "A1")

    def test_what_is_left_is_read_and_written_on(self):
        reel = reel_of(["one", None, "three", "four"])
        reel.tear(2)
        self.assertEqual([reel.read(), reel.read()], ["one", None])
        self.assertEqual(reel.used(), 10)
        self.assert_refused(AtEnd, reel, "read")
        reel.write("new")
        self.assertEqual(reel.content(), ["one", None, "new"])
        self.assertEqual(reel.used(), 16)

    def test_a_new_reel(self):
        reel = Reel("A", length=150)
        reel.tear(0)
        self.assertEqual(reel.content(), [])
        self.assert_refused(BadNumber, reel, "tear", 1)

    def test_no_numbers(self):
        for place in range(4):
            reel = reel_of(["one", None, "three"], place=place)
            for at in [-1, 4, 5000, 10 ** 5000, -10 ** 5000] + NO_WHOLE_NUMBERS:
                self.assert_refused(BadNumber, reel, "tear", at)

    def test_all_that_stands_counts_not_the_place(self):
        reel = reel_of(["one", None, "three"], place=0)
        reel.tear(3)
        self.assertEqual(reel.content(), ["one", None, "three"])


if __name__ == "__main__":
    unittest.main()
