"""Labels: points [1] and [6] of the document."""

import inspect
import itertools
import re
import unittest

from reelrows.errors import BadForm, BadLabel, BadName, BadNumber, ReelError
from reelrows.labels import file_label, form_label, read_file_label, read_form_label, read_reel_label, reel_label
from tests.taping import is_form, is_padded
from tests.wrong import NO_TEXTS, NO_WHOLE_NUMBERS

KINDS = ["HDR1", "EOF1", "EOV1"]
NO_KINDS = ["", "HDR", "HDR2", "HDR11", "hdr1", "EOF2", "EOV", "VOL1", " HDR1", "HDR1 ", "1", "HDR1EOF1"] + NO_TEXTS
NO_NAMES = ["", " ", "a", "abc", "A B", " A", "A ", "A-B", "A_B", "~", "Aa", "A.1"] + NO_TEXTS
WIDTHS = [4, 4, 4, 2, 5, 5, 6]
ALL_SIGNS = [chr(code) for code in range(ord(" "), ord("~") + 1)]


def with_number(which, number):
    return tuple(number if place == which else 0 for place in range(7))


def a_little_wrong(text):
    """The text with each sign turned, left out, doubled, or with signs put in."""
    for place in range(len(text) + 1):
        for sign in ALL_SIGNS:
            if place < len(text):
                yield text[:place] + sign + text[place + 1:]
        for sign in "0A ":
            yield text[:place] + sign + text[place:]
        yield text[:place] + text[place + 1:]
        yield text[:place]
        yield text[place:]


class LabelCase(unittest.TestCase):
    def assert_refused(self, refusal, deed, *given, **named):
        with self.assertRaises(ReelError) as caught:
            deed(*given, **named)
        self.assertIs(type(caught.exception), refusal, (given, named))


class TestInterface(unittest.TestCase):
    def test_numbers_are_handed_in_by_their_name_and_may_be_left_out(self):
        parameter = inspect.signature(file_label).parameters["numbers"]
        self.assertIs(parameter.kind, inspect.Parameter.KEYWORD_ONLY)
        self.assertEqual(parameter.default, (0, 0, 0, 0, 0, 0, 0))
        with self.assertRaises(TypeError):
            file_label("HDR1", "A", "B", (0, 0, 0, 0, 0, 0, 0))


class TestReelLabel(LabelCase):
    def test_sign_by_sign(self):
        self.assertEqual(reel_label("A", "B"), "VOL1" + "A     " + "B       ")
        self.assertEqual(reel_label("TAPE01", "NOBODY"), "VOL1" + "TAPE01" + "NOBODY  ")
        self.assertEqual(reel_label("0", "ABCDEFGH"), "VOL1" + "0     " + "ABCDEFGH")
        self.assertEqual(reel_label("999999", "00000000"), "VOL1" + "999999" + "00000000")
        self.assertEqual(reel_label("VOL1", "VOL1"), "VOL1" + "VOL1  " + "VOL1    ")

    def test_it_is_read_again(self):
        for serial, owner in itertools.product(["A", "Z9", "ABCDEF", "000000"], ["B", "NOBODY", "ABCDEFGH", "0"]):
            told = read_reel_label(reel_label(serial, owner))
            self.assertEqual(told, (serial, owner))
            self.assertIs(type(told), tuple)

    def test_no_names(self):
        for wrong in NO_NAMES + ["ABCDEFG", "ABCDEFGH"]:
            self.assert_refused(BadName, reel_label, wrong, "B")
        for wrong in NO_NAMES + ["ABCDEFGHI", "ABCDEFGHIJ"]:
            self.assert_refused(BadName, reel_label, "A", wrong)
        self.assert_refused(BadName, reel_label, None, None)

    def test_a_little_wrong(self):
        for serial, owner in [("A", "B"), ("TAPE01", "ABCDEFGH"), ("AB", "NOBODY")]:
            for text in a_little_wrong(reel_label(serial, owner)):
                found = re.fullmatch("VOL1(.{6})(.{8})", text)
                if found and is_padded(found[1]) and is_padded(found[2]):
                    self.assertEqual(read_reel_label(text), (found[1].rstrip(), found[2].rstrip()))
                else:
                    self.assert_refused(BadLabel, read_reel_label, text)

    def test_no_labels(self):
        for text in [
            "VOL1              ", "VOL1A             ", "VOL1      B       ", "VOL1A B   B       ", "VOL1A     B B     ",
            "VOL1 A    B       ", "VOL1A      B      ", "VOL1a     B       ", "VOL1A     b       ", "vol1A     B       ",
            "VOL2A     B       ", "HDR1A     B       ", "VOL1A     B      ", "VOL1A     B        ", "",
        ] + NO_TEXTS:
            self.assert_refused(BadLabel, read_reel_label, text)


class TestFileLabel(LabelCase):
    def test_sign_by_sign(self):
        self.assertEqual(
            file_label("HDR1", "PAYROLL", "TAPE01", numbers=(1, 2, 3, 4, 5, 6, 7)),
            "HDR1" + "PAYROLL " + "TAPE01" + "0001" + "0002" + "0003" + "04" + "00005" + "00006" + "000007",
        )
        self.assertEqual(
            file_label("EOF1", "A", "B", numbers=(12, 345, 6789, 10, 1112, 13141, 51617)),
            "EOF1" + "A       " + "B     " + "0012" + "0345" + "6789" + "10" + "01112" + "13141" + "051617",
        )
        self.assertEqual(
            file_label("EOV1", "ABCDEFGH", "012345", numbers=(9999, 9999, 9999, 99, 99999, 99999, 999999)),
            "EOV1" + "ABCDEFGH" + "012345" + "9999" + "9999" + "9999" + "99" + "99999" + "99999" + "999999",
        )

    def test_numbers_may_be_left_out(self):
        self.assertEqual(file_label("HDR1", "A", "B"), "HDR1A       B     " + "0" * 30)
        self.assertEqual(file_label("HDR1", "A", "B"), file_label("HDR1", "A", "B", numbers=(0,) * 7))

    def test_each_number_has_noughts_ahead_and_its_greatest(self):
        for which, width in enumerate(WIDTHS):
            start = 18 + sum(WIDTHS[:which])
            for number in [0, 1, 9] + [10 ** figures for figures in range(1, width)] + [10 ** width - 1]:
                text = file_label("EOF1", "A", "B", numbers=with_number(which, number))
                self.assertEqual(len(text), 48)
                self.assertEqual(text[start:start + width], str(number).rjust(width, "0"))
                self.assertEqual(text[18:start] + text[start + width:], "0" * (30 - width))
                self.assertEqual(read_file_label(text)[3], with_number(which, number))
            for number in [10 ** width, 10 ** width + 1, -1, -10 ** width, 10 ** 5000]:
                self.assert_refused(BadNumber, file_label, "EOF1", "A", "B", numbers=with_number(which, number))
            for number in NO_WHOLE_NUMBERS:
                self.assert_refused(BadNumber, file_label, "EOF1", "A", "B", numbers=with_number(which, number))

    def test_no_seven_numbers(self):
        for numbers in [
            (), (0,) * 6, (0,) * 8, [0] * 7, [1, 2, 3, 4, 5, 6, 7], "0000000", b"0000000", {0: 0}, set(range(7)), None, 0,
            True, object(), tuple, range(7), dict.fromkeys(range(7)), (None,) * 7, ((0,) * 7,),
        ]:
            self.assert_refused(BadNumber, file_label, "HDR1", "A", "B", numbers=numbers)

    def test_it_is_read_again(self):
        rows = [(0,) * 7, (1, 2, 3, 4, 5, 6, 7), (9999, 9999, 9999, 99, 99999, 99999, 999999)]
        for kind, name, first, numbers in itertools.product(KINDS, ["A", "ABCDEFGH", "HDR1", "0"], ["B", "R00001"], rows):
            told = read_file_label(file_label(kind, name, first, numbers=numbers))
            self.assertEqual(told, (kind, name, first, numbers))
            self.assertEqual([type(part) for part in told], [str, str, str, tuple])
            self.assertIs(type(told), tuple)
            self.assertEqual([type(number) for number in told[3]], [int] * 7)

    def test_no_kinds_and_no_names(self):
        for kind in NO_KINDS:
            self.assert_refused(BadLabel, file_label, kind, "A", "B")
        for kind in KINDS:
            for wrong in NO_NAMES + ["ABCDEFGHI", "ABCDEFGHIJKL"]:
                self.assert_refused(BadName, file_label, kind, wrong, "B")
            for wrong in NO_NAMES + ["ABCDEFG", "ABCDEFGH"]:
                self.assert_refused(BadName, file_label, kind, "A", wrong)

    def test_the_order_of_refusals(self):
        for kind in NO_KINDS:
            self.assert_refused(BadLabel, file_label, kind, "", "B")
            self.assert_refused(BadLabel, file_label, kind, "A", "ABCDEFG")
            self.assert_refused(BadLabel, file_label, kind, "A", "B", numbers=None)
            self.assert_refused(BadLabel, file_label, kind, None, None, numbers=None)
        for numbers in [None, (), (0,) * 8, (-1,) + (0,) * 6, (True,) * 7]:
            self.assert_refused(BadName, file_label, "HDR1", "a", "B", numbers=numbers)
            self.assert_refused(BadName, file_label, "HDR1", "A", "", numbers=numbers)
            self.assert_refused(BadNumber, file_label, "HDR1", "A", "B", numbers=numbers)

    def test_a_little_wrong(self):
        pattern = re.compile("(HDR1|EOF1|EOV1)(.{8})(.{6})" + "".join("([0-9]{%d})" % width for width in WIDTHS))
        for kind, name, first in [("HDR1", "A", "B"), ("EOF1", "ABCDEFGH", "R00001"), ("EOV1", "AB1", "ABC")]:
            for text in a_little_wrong(file_label(kind, name, first, numbers=(1, 22, 333, 44, 5555, 0, 99))):
                found = pattern.fullmatch(text)
                if found and is_padded(found[2]) and is_padded(found[3]):
                    numbers = tuple(int(found[place]) for place in range(4, 11))
                    self.assertEqual(read_file_label(text), (found[1], found[2].rstrip(), found[3].rstrip(), numbers))
                else:
                    self.assert_refused(BadLabel, read_file_label, text)

    def test_no_labels(self):
        figures = "0" * 30
        for text in [
            "HDR1        B     " + figures, "HDR1A             " + figures, "HDR1A B     B     " + figures,
            "HDR1 A      B     " + figures, "HDR1A        B    " + figures, "HDR1a       B     " + figures,
            "HDR1A       b     " + figures, "hdr1A       B     " + figures, "HDR2A       B     " + figures,
            "VOL1A       B     " + figures, "HDR1A       B     " + figures[1:], "HDR1A       B     " + figures + "0",
            "HDR1A       B     " + " " * 30, "HDR1A       B     " + "   1" + figures[4:], "HDR1A       B     +001" + figures[4:],
            "HDR1A       B     -001" + figures[4:], "HDR1A       B     0_01" + figures[4:], "", "HDR1",
        ] + NO_TEXTS:
            self.assert_refused(BadLabel, read_file_label, text)


class TestFormLabel(LabelCase):
    def test_sign_by_sign(self):
        self.assertEqual(form_label("F", 60, 7), "HDR2" + "F" + "060" + "007")
        self.assertEqual(form_label("V", 5, 2), "HDR2" + "V" + "005" + "002")
        self.assertEqual(form_label("S", 33, 200), "HDR2" + "S" + "033" + "200")

    def test_it_is_read_again(self):
        for form, block, size in itertools.product("FVS", range(5, 61), [1, 2, 5, 57, 60, 99, 100, 200]):
            if is_form(form, block, size):
                told = read_form_label(form_label(form, block, size))
                self.assertEqual(told, (form, block, size))
                self.assertEqual([type(part) for part in told], [str, int, int])
                self.assertIs(type(told), tuple)

    def test_no_forms(self):
        for form, block, size in [
            ("X", 20, 5), ("f", 20, 5), ("", 20, 5), ("FV", 20, 5), ("F", 4, 1), ("F", 61, 1), ("F", 20, 21), ("F", 20, 0),
            ("V", 20, 18), ("V", 4, 1), ("V", 61, 58), ("S", 4, 1), ("S", 61, 1), ("S", 20, 201), ("S", 20, 0), ("S", -5, 5),
            ("S", 20, -1), ("S", 10 ** 5000, 5), ("S", 20, 10 ** 5000),
        ]:
            self.assert_refused(BadForm, form_label, form, block, size)
        for wrong in NO_TEXTS:
            self.assert_refused(BadForm, form_label, wrong, 20, 5)
        for wrong in NO_WHOLE_NUMBERS:
            self.assert_refused(BadForm, form_label, "S", wrong, 5)
            self.assert_refused(BadForm, form_label, "S", 20, wrong)

    def test_a_little_wrong(self):
        for form, block, size in [("F", 20, 20), ("V", 60, 57), ("S", 5, 200), ("S", 60, 99)]:
            for text in a_little_wrong(form_label(form, block, size)):
                found = re.fullmatch("HDR2([FVS])([0-9]{3})([0-9]{3})", text)
                told = found and (found[1], int(found[2]), int(found[3]))
                if told and is_form(*told):
                    self.assertEqual(read_form_label(text), told)
                else:
                    self.assert_refused(BadLabel, read_form_label, text)

    def test_no_labels(self):
        for text in [
            "HDR2F004001", "HDR2F061001", "HDR2F020021", "HDR2F020000", "HDR2V020018", "HDR2S020201", "HDR2X020005",
            "HDR2f020005", "HDR2 020005", "hdr2F020005", "HDR1F020005", "HDR2F20005", "HDR2F0200005", "HDR2F 20005",
            "HDR2F020  5", "HDR2F+20005", "HDR2F020-05", "HDR2F0_0005", "", "HDR2", "HDR2FFF020005",
        ] + NO_TEXTS:
            self.assert_refused(BadLabel, read_form_label, text)


class TestOneIsNoOther(LabelCase):
    def test_labels_of_other_kinds(self):
        labels = {read_reel_label: reel_label("A", "B"), read_form_label: form_label("F", 20, 5)}
        labels[read_file_label] = file_label("HDR1", "A", "B")
        for read, (other, text) in itertools.product(labels, labels.items()):
            if read is not other:
                self.assert_refused(BadLabel, read, text)


if __name__ == "__main__":
    unittest.main()
