"""Records in blocks: points [1], [4] and [5] of the document."""

import inspect
import itertools
import re
import unittest

from reelrows.errors import BadBlock, BadForm, BadRecord, ReelError
from reelrows.records import blocked, unblocked
from tests.wrong import NO_LISTS, NO_TEXTS, NO_WHOLE_NUMBERS

ALL_SIGNS = "".join(chr(code) for code in range(ord(" "), ord("~") + 1))

NO_FORMS = ["", "f", "v", "s", "FV", "FVS", "VS", "U", " ", "F ", " F", "0"] + NO_TEXTS


def letters(many, start=0):
    """A text in which each sign can be told from its neighbours."""
    return "".join("ABCDEFGHIJKLMNOPQRSTUVWXYZ"[(start + place) % 26] for place in range(many))


def could_stand(blocks, form, block, size):
    """The records in these blocks by another way than the program's, or None."""
    if any(not 1 <= len(text) <= block for text in blocks):
        return None
    if form == "F":
        if any(not re.fullmatch("(?:.{%d})+" % size, text) for text in blocks):
            return None
        return re.findall(".{%d}" % size, "".join(blocks))
    parts = []
    for text in blocks:
        head = "([0123])([0-9]{3})" if form == "S" else "()([0-9]{3})"
        while text:
            found = re.match(head, text)
            if not found or len(text) - found.end() < int(found[2]):
                return None
            end = found.end() + int(found[2])
            parts.append((found[1] or "0", text[found.end():end]))
            text = text[end:]
    if not re.fullmatch("(?:0|13*2)*", "".join(sign for sign, part in parts)):
        return None
    records = []
    for sign, part in parts:
        if sign in "01":
            records.append("")
        records[-1] += part
    return records if all(len(record) <= size for record in records) else None


class RecordsCase(unittest.TestCase):
    def assert_refused(self, refusal, deed, given, form, block, size):
        with self.assertRaises(ReelError) as caught:
            deed(given, form=form, block=block, size=size)
        self.assertIs(type(caught.exception), refusal, (given, form, block, size))

    def assert_blocks(self, form, block, size, records, blocks):
        handed = list(records)
        self.assertEqual(blocked(handed, form=form, block=block, size=size), blocks)
        self.assertEqual(handed, records)
        handed = list(blocks)
        self.assertEqual(unblocked(handed, form=form, block=block, size=size), records)
        self.assertEqual(handed, blocks)

    def assert_read(self, form, block, size, blocks, records):
        self.assertEqual(unblocked(blocks, form=form, block=block, size=size), records)

    def assert_bad_blocks(self, form, block, size, *rows):
        for blocks in rows:
            handed = list(blocks)
            self.assert_refused(BadBlock, unblocked, handed, form, block, size)
            self.assertEqual(handed, blocks)


class TestInterface(unittest.TestCase):
    def test_parameters_behind_a_star(self):
        for deed in (blocked, unblocked):
            for name in ("form", "block", "size"):
                parameter = inspect.signature(deed).parameters[name]
                self.assertIs(parameter.kind, inspect.Parameter.KEYWORD_ONLY)
                self.assertIs(parameter.default, inspect.Parameter.empty)
            with self.assertRaises(TypeError):
                deed([], "F", 10, 5)


class TestForms(RecordsCase):
    def assert_form(self, form, block, size):
        for deed in (blocked, unblocked):
            self.assertEqual(deed([], form=form, block=block, size=size), [], (form, block, size))

    def assert_no_form(self, form, block, size):
        for deed in (blocked, unblocked):
            self.assert_refused(BadForm, deed, [], form, block, size)

    def test_edges(self):
        for form, block, size in [
            ("F", 5, 1), ("F", 5, 5), ("F", 60, 1), ("F", 60, 60), ("F", 33, 33),
            ("V", 5, 1), ("V", 5, 2), ("V", 60, 1), ("V", 60, 57), ("V", 33, 30),
            ("S", 5, 1), ("S", 5, 200), ("S", 60, 1), ("S", 60, 200), ("S", 33, 33),
        ]:
            self.assert_form(form, block, size)

    def test_beyond_the_edges(self):
        for form, block, size in [
            ("F", 4, 1), ("F", 61, 1), ("F", 61, 61), ("F", 5, 0), ("F", 5, 6), ("F", 60, 61), ("F", 33, 34),
            ("F", 60, 200), ("F", 60, -1),
            ("V", 4, 1), ("V", 61, 1), ("V", 61, 58), ("V", 5, 0), ("V", 5, 3), ("V", 60, 58), ("V", 33, 31),
            ("V", 60, 200), ("V", 60, -1),
            ("S", 4, 1), ("S", 61, 1), ("S", 5, 0), ("S", 5, 201), ("S", 60, 201), ("S", 60, -1), ("S", -5, 5),
            ("S", 10 ** 5000, 5), ("S", 5, 10 ** 5000),
        ]:
            self.assert_no_form(form, block, size)

    def test_wrong_kinds(self):
        for form in NO_FORMS:
            self.assert_no_form(form, 20, 5)
        for form, number in itertools.product("FVS", NO_WHOLE_NUMBERS):
            self.assert_no_form(form, number, 1)
            self.assert_no_form(form, 20, number)

    def test_the_form_is_looked_at_before_all_else(self):
        for form, block, size in [("X", 20, 5), ("F", 4, 1), ("V", 20, 18), ("S", 20, True), (None, None, None)]:
            for given in [None, "ABC", [None], ["x" * 300], [""], [1], ()]:
                self.assert_refused(BadForm, blocked, given, form, block, size)
                self.assert_refused(BadForm, unblocked, given, form, block, size)


class TestRecordsThatFit(RecordsCase):
    def test_lengths(self):
        for form, block, size in [("F", 20, 7), ("V", 20, 7), ("S", 20, 7), ("S", 5, 200), ("V", 60, 57), ("F", 60, 60)]:
            for many in [0, 1, size - 1, size, size + 1, size + 2, 300]:
                fits = many == size if form == "F" else many <= size
                for records in [["x" * many], ["x" * size, "x" * many], ["x" * many, "x" * size]]:
                    if fits:
                        told = blocked(records, form=form, block=block, size=size)
                        self.assertEqual(unblocked(told, form=form, block=block, size=size), records)
                    else:
                        self.assert_refused(BadRecord, blocked, records, form, block, size)

    def test_no_lists_of_texts(self):
        for form in "FVS":
            for given in NO_LISTS:
                self.assert_refused(BadRecord, blocked, given, form, 20, 3)
            for thing in NO_TEXTS:
                self.assert_refused(BadRecord, blocked, [thing], form, 20, 3)
                self.assert_refused(BadRecord, blocked, ["ABC", thing], form, 20, 3)
                self.assert_refused(BadRecord, blocked, [thing, "ABC"], form, 20, 3)

    def test_no_records_are_no_blocks(self):
        for form in "FVS":
            self.assert_blocks(form, 20, 3, [], [])
            given = []
            self.assertIsNot(blocked(given, form=form, block=20, size=3), given)
            self.assertIsNot(unblocked(given, form=form, block=20, size=3), given)


class TestFixed(RecordsCase):
    def test_one_behind_the_other(self):
        self.assert_blocks("F", 5, 1, ["A"], ["A"])
        self.assert_blocks("F", 5, 1, list("ABCDE"), ["ABCDE"])
        self.assert_blocks("F", 5, 1, list("ABCDEF"), ["ABCDE", "F"])
        self.assert_blocks("F", 5, 2, ["AB", "CD", "EF"], ["ABCD", "EF"])
        self.assert_blocks("F", 6, 2, ["AB", "CD", "EF"], ["ABCDEF"])
        self.assert_blocks("F", 6, 2, ["AB", "CD", "EF", "GH"], ["ABCDEF", "GH"])
        self.assert_blocks("F", 5, 3, ["ABC", "DEF"], ["ABC", "DEF"])
        self.assert_blocks("F", 5, 5, ["ABCDE", "FGHIJ"], ["ABCDE", "FGHIJ"])
        self.assert_blocks("F", 60, 60, [letters(60), letters(60, 3)], [letters(60), letters(60, 3)])
        self.assert_blocks("F", 6, 3, ["   ", "~~~", "012"], ["   ~~~", "012"])

    def test_room_is_not_looked_at(self):
        self.assert_read("F", 6, 2, ["AB", "CDEF", "GH"], ["AB", "CD", "EF", "GH"])
        self.assert_read("F", 60, 2, ["CD", "AB"], ["CD", "AB"])

    def test_not_just_of_the_size(self):
        self.assert_bad_blocks("F", 6, 2, ["A"], ["ABC"], ["AB", "C"], ["ABCDE"], ["A", "B"], ["ABCDEFGH"], [""], ["AB", ""])
        self.assert_bad_blocks("F", 5, 5, ["ABCD"], ["ABCDE", "F"], ["ABCDEF"])


class TestVarying(RecordsCase):
    def test_three_figures_ahead(self):
        self.assert_blocks("V", 5, 2, [""], ["000"])
        self.assert_blocks("V", 5, 2, ["", ""], ["000", "000"])
        self.assert_blocks("V", 6, 2, ["", ""], ["000000"])
        self.assert_blocks("V", 6, 3, ["ABC", ""], ["003ABC", "000"])
        self.assert_blocks("V", 60, 57, [letters(57)], ["057" + letters(57)])
        self.assert_blocks("V", 60, 57, [letters(12), "x"], ["012" + letters(12) + "001x"])
        self.assert_blocks("V", 10, 7, ["AB", "C", "DE"], ["002AB001C", "002DE"])
        self.assert_blocks("V", 10, 7, ["AB", "CD", "E"], ["002AB002CD", "001E"])
        self.assert_blocks("V", 10, 7, ["AB", "CDE", "F"], ["002AB", "003CDE001F"])
        self.assert_blocks("V", 20, 7, ["000", "123"], ["003000003123"])

    def test_only_the_last_block_is_gone_on_with(self):
        self.assert_blocks("V", 10, 7, ["A", "ABCDEFG", "B"], ["001A", "007ABCDEFG", "001B"])

    def test_room_is_not_looked_at(self):
        self.assert_read("V", 60, 5, ["001A", "000", "001B"], ["A", "", "B"])
        self.assert_read("V", 60, 5, ["001B001A"], ["B", "A"])

    def test_blocks_that_could_not_stand_so(self):
        self.assert_bad_blocks(
            "V", 20, 5,
            ["0"], ["00"], ["001"], ["002A"], ["001AB"], ["001A0"], ["001A00"], ["001A001"], ["A"], ["ABC"], ["0A1B"],
            [" 01A"], ["+01A"], ["-01A"], ["0_1A"], ["01 A"], ["1  A"], ["1.0A"], ["00A1"], ["006ABCDEF"],
            ["001A", "006ABCDEF"], ["001A", "02A"], ["001A", ""], [""], ["001", "A"], ["999A"], ["005ABCDE" * 3],
        )
        self.assert_read("V", 20, 5, ["005ABCDE"], ["ABCDE"])


class TestParted(RecordsCase):
    def test_whole_records(self):
        self.assert_blocks("S", 5, 200, [""], ["0000"])
        self.assert_blocks("S", 5, 200, ["A"], ["0001A"])
        self.assert_blocks("S", 60, 200, ["ABC", "", "D"], ["0003ABC00000001D"])
        self.assert_blocks("S", 60, 200, [letters(56)], ["0056" + letters(56)])

    def test_first_between_and_last_parts(self):
        self.assert_blocks("S", 5, 200, ["AB"], ["1001A", "2001B"])
        self.assert_blocks("S", 5, 200, ["ABC"], ["1001A", "3001B", "2001C"])
        self.assert_blocks("S", 5, 200, ["ABCD", "E", "FG"], ["1001A", "3001B", "3001C", "2001D", "0001E", "1001F", "2001G"])
        self.assert_blocks("S", 10, 20, ["ABCDEF"], ["0006ABCDEF"])
        self.assert_blocks("S", 10, 20, ["ABCDEFG"], ["1006ABCDEF", "2001G"])
        self.assert_blocks("S", 10, 20, [letters(13)], ["1006ABCDEF", "3006GHIJKL", "2001M"])
        self.assert_blocks("S", 10, 20, [letters(12)], ["1006ABCDEF", "2006GHIJKL"])
        long = letters(200)
        self.assert_blocks(
            "S", 60, 200, [long], ["1056" + long[:56], "3056" + long[56:112], "3056" + long[112:168], "2032" + long[168:]],
        )

    def test_just_enough_room(self):
        # "ABC" leaves 5 signs of room in a block of 12, "ABCD" leaves 4.
        self.assert_blocks("S", 12, 20, ["ABC", "D"], ["0003ABC0001D"])
        self.assert_blocks("S", 12, 20, ["ABC", "DE"], ["0003ABC1001D", "2001E"])
        self.assert_blocks("S", 12, 20, ["ABCD", "D"], ["0004ABCD", "0001D"])
        self.assert_blocks("S", 12, 20, ["ABCD", "DE"], ["0004ABCD", "0002DE"])
        self.assert_blocks("S", 12, 20, ["ABCDE", "F"], ["0005ABCDE", "0001F"])

    def test_records_of_no_signs_need_five_signs_of_room_too(self):
        self.assert_blocks("S", 12, 20, ["ABC", ""], ["0003ABC0000"])
        self.assert_blocks("S", 12, 20, ["ABCD", ""], ["0004ABCD", "0000"])
        self.assert_blocks("S", 8, 20, ["", ""], ["0000", "0000"])
        self.assert_blocks("S", 9, 20, ["", "", ""], ["00000000", "0000"])

    def test_a_last_part_leaves_its_room_to_the_next_record(self):
        self.assert_blocks("S", 10, 20, ["ABCDEFG", "HI", "J"], ["1006ABCDEF", "2001G1001H", "2001I0001J"])
        self.assert_blocks("S", 10, 20, ["ABCDEFGH", "I"], ["1006ABCDEF", "2002GH", "0001I"])

    def test_room_and_how_much_a_part_has_are_not_looked_at(self):
        self.assert_read("S", 20, 5, ["0001A", "0000", "0001B"], ["A", "", "B"])
        self.assert_read("S", 20, 5, ["1001A", "2001B"], ["AB"])
        self.assert_read("S", 20, 5, ["1001A2001B"], ["AB"])
        self.assert_read("S", 20, 5, ["1000", "3000", "2000"], [""])
        self.assert_read("S", 20, 5, ["1000", "2003ABC", "0000"], ["ABC", ""])
        self.assert_read("S", 20, 5, ["1002AB", "3000", "3001C", "2002DE"], ["ABCDE"])

    def test_parts_that_are_not_in_turn(self):
        self.assert_bad_blocks(
            "S", 20, 5,
            ["2001A"], ["3001A"], ["0001A2001B"], ["0001A", "3001B"], ["1001A", "0001B"], ["1001A", "1001B", "2001C"],
            ["1001A", "2001B", "2001C"], ["1001A", "2001B", "3001C"], ["2001B", "1001A"], ["1001A", "3001B", "0001C"],
            ["1000", "0000"], ["1000", "1000"], ["2000"], ["3000"],
        )

    def test_a_first_part_without_its_last(self):
        self.assert_bad_blocks("S", 20, 5, ["1001A"], ["1000"], ["0001A", "1001B"], ["1001A", "3001B"], ["1001A2001B1001C"])

    def test_records_longer_than_the_size(self):
        self.assert_read("S", 20, 5, ["0005ABCDE", "1003ABC", "2002DE"], ["ABCDE", "ABCDE"])
        self.assert_bad_blocks(
            "S", 20, 5, ["0006ABCDEF"], ["1003ABC", "2003DEF"], ["1006ABCDEF", "2000"], ["1002AB", "3002CD", "2002EF"],
            ["1005ABCDE", "3001F", "2000"],
        )

    def test_no_parts(self):
        self.assert_bad_blocks(
            "S", 20, 5,
            ["0"], ["00"], ["000"], ["0001"], ["0002A"], ["0001AB"], ["0001A0"], ["0001A000"], ["4001A"], ["9000"],
            [" 001A"], ["A001A"], ["0 01A"], ["0+01A"], ["0-01A"], ["00_1A"], ["001 A"], ["0A01A"], ["0001A", ""], [""],
            ["0001", "A"], ["0999A"], ["0005ABCDE0005ABCDE0005ABCDE"],
        )


class TestLists(RecordsCase):
    def test_no_lists_of_blocks(self):
        for form, text in [("F", "ABC"), ("V", "003ABC"), ("S", "0003ABC")]:
            self.assert_read(form, 20, 3, [text, text], ["ABC", "ABC"])
            for given in NO_LISTS:
                self.assert_refused(BadBlock, unblocked, given, form, 20, 3)
            for thing in NO_TEXTS:
                self.assert_refused(BadBlock, unblocked, [thing], form, 20, 3)
                self.assert_refused(BadBlock, unblocked, [text, thing], form, 20, 3)
                self.assert_refused(BadBlock, unblocked, [thing, text], form, 20, 3)

    def test_blocks_up_to_so_many_signs(self):
        self.assert_read("F", 6, 1, ["ABCDEF"], list("ABCDEF"))
        self.assert_bad_blocks("F", 6, 1, ["ABCDEFG"], ["A", "ABCDEFG"], [""], ["A", "", "B"])
        self.assert_read("V", 8, 5, ["005ABCDE"], ["ABCDE"])
        self.assert_bad_blocks("V", 8, 5, ["001A001B0"], ["001A001B000"], ["000000000"])
        self.assert_read("S", 8, 9, ["00000000"], ["", ""])
        self.assert_bad_blocks("S", 8, 9, ["0005ABCDE"], ["000000000000"])

    def test_all_signs(self):
        for sign in ALL_SIGNS:
            for form, block, size in [("F", 10, 4), ("V", 10, 4), ("S", 6, 4)]:
                records = [sign * 4, "0000", sign * 4]
                told = blocked(records, form=form, block=block, size=size)
                self.assert_read(form, block, size, told, records)


class TestAgainstAnotherWay(RecordsCase):
    """Many rows of records, and many blocks that are a little wrong."""

    def rows(self):
        for form, block, size in [
            ("F", 5, 2), ("F", 7, 3), ("V", 5, 2), ("V", 11, 4), ("S", 5, 3), ("S", 9, 12), ("S", 12, 7), ("S", 13, 20),
        ]:
            lengths = [size] if form == "F" else sorted({0, 1, 2, size - 1, size})
            for many in range(4):
                for taken in itertools.product(lengths, repeat=many):
                    records = [letters(length, 5 * turn) for turn, length in enumerate(taken)]
                    yield form, block, size, records

    def test_read_back_are_the_very_records(self):
        for form, block, size, records in self.rows():
            told = blocked(records, form=form, block=block, size=size)
            self.assertTrue(all(1 <= len(text) <= block for text in told))
            self.assertEqual(could_stand(told, form, block, size), records)
            self.assert_read(form, block, size, told, records)

    def test_a_sign_turned_put_in_or_left_out(self):
        for form, block, size, records in self.rows():
            told = blocked(records, form=form, block=block, size=size)
            for number, text in enumerate(told):
                for place in range(len(text) + 1):
                    turned = [text[:place] + sign + text[place + 1:] for sign in "01234A "] if place < len(text) else []
                    put_in = [text[:place] + sign + text[place:] for sign in "01A"]
                    left_out = [text[:place] + text[place + 1:]]
                    for wrong in turned + put_in + left_out:
                        self.compare(told[:number] + [wrong] + told[number + 1:], form, block, size)

    def test_blocks_in_another_order_or_left_out(self):
        for form, block, size, records in self.rows():
            told = blocked(records, form=form, block=block, size=size)
            for number in range(len(told)):
                self.compare(told[:number] + told[number + 1:], form, block, size)
                self.compare(told[number:] + told[:number], form, block, size)
                self.compare(told[:number] + [told[number]] + told[number:], form, block, size)
            self.compare(told[::-1], form, block, size)

    def compare(self, blocks, form, block, size):
        records = could_stand(blocks, form, block, size)
        if records is None:
            self.assert_refused(BadBlock, unblocked, blocks, form, block, size)
        else:
            self.assert_read(form, block, size, blocks, records)


if __name__ == "__main__":
    unittest.main()
