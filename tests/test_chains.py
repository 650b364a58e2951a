"""Chains of generations: points [1] and [12] of the document."""

import inspect
import itertools
import unittest

from reelrows.chains import Chain
from reelrows.errors import BadBlock, BadLabel, BadName, BadNumber, BadRecord, BadReel, NoFile, NoReel, NoRing
from reelrows.sets import TapeSet
from tests.taping import (
    File, TapeCase, go_to, label, load, places, reels_of, set_of, set_with, states, twenties, written,
)
from tests.test_labels import NO_NAMES
from tests.wrong import NO_LISTS, NO_WHOLE_NUMBERS

METHODS = ["members", "kept", "newest", "add", "again", "get", "words"]

NO_SETS = [
    True, False, None, 0, 1, "", "TAPES", b"TAPES", [], [1], (), {}, {"A": 1}, {"A"}, object(), TapeSet, len,
    reels_of([500]), tuple(reels_of([500, 500])), reels_of([500])[0],
]


def of_generations(rows):
    """Files of names, generations and versions, each with a record that tells its number."""
    return [
        File(name, ["%03d" % number], ("F", 40, 3), (generation, version, 1, 0))
        for number, (name, generation, version) in enumerate(rows, 1)
    ]


def set_of_generations(rows):
    return set_with([5000, 5000, 5000], of_generations(rows))


def members_by_hand(rows, name):
    """Of each generation the greatest pair of a version and a number."""
    members = []
    for generation in sorted({its[1] for its in rows if its[0] == name} - {0}):
        pairs = [(its[2], number) for number, its in enumerate(rows, 1) if its[:2] == (name, generation)]
        members.append((generation,) + max(pairs))
    return members


def ninety_nine(generations, version=0):
    """A set with 99 files of the name A, of these generations, and its reels."""
    # A file with a block goes on to the next reel where the tape is near its end.
    files = [
        File("A", twenties(1) if number in (40, 80) else [], told=(generation, version, 1, 0))
        for number, generation in enumerate(generations, 1)
    ]
    return set_of([5000] * 4, written([5000] * 4, files))


def like_put(name, records, generation, version, day=1, ends=0):
    """The file that add or again shall write."""
    blocks = []
    for record in records:
        entry = "%03d%s" % (len(record), record)
        if blocks and len(blocks[-1] + entry) <= 40:
            blocks[-1] += entry
        else:
            blocks.append(entry)
    return File(name, blocks, ("V", 40, 30), (generation, version, day, ends))


class ChainCase(TapeCase):
    def assert_members(self, chain, wanted):
        """What all methods that read tell of a chain with these members."""
        for keep in (1, 2, 3, 4, 99):
            its = Chain(chain.tapes, chain.name, keep=keep)
            kept = wanted[max(0, len(wanted) - keep):]
            self.assertEqual(its.members(), wanted)
            self.assertEqual(its.kept(), kept)
            self.assertEqual(its.newest(), wanted[-1][0] if wanted else 0)
            words = [chain.name + ".G" + str(row[0]).rjust(4, "0") + "V" + str(row[1]).rjust(2, "0") for row in kept]
            self.assertEqual(its.words(), words)
            for back in range(len(kept)):
                self.assertEqual(its.get(back), chain.tapes.get(kept[len(kept) - 1 - back][2]))
            with self.assertRaises(NoFile) as caught:
                its.get(len(kept))
            self.assertEqual(caught.exception.number, len(kept))


class TestInterface(unittest.TestCase):
    def test_methods_stand_in_the_class_itself(self):
        for name in METHODS:
            self.assertTrue(inspect.isfunction(vars(Chain).get(name)), name)

    def test_parameters_behind_a_star(self):
        tapes, reels = set_of_generations([("A", 1, 0)])
        with self.assertRaises(TypeError):
            Chain(tapes, "A", 3)
        chain = Chain(tapes, "A")
        for deed in (chain.add, chain.again):
            with self.assertRaises(TypeError):
                deed([], 1)
            with self.assertRaises(TypeError):
                deed()
            kinds = {name: its for name, its in inspect.signature(deed).parameters.items()}
            for name, default in (("day", 1), ("ends", 0)):
                self.assertEqual(kinds[name].kind, inspect.Parameter.KEYWORD_ONLY)
                self.assertEqual(kinds[name].default, default)

    def test_three_are_kept_if_keep_is_left_out(self):
        tapes, reels = set_of_generations([("A", number, 0) for number in range(1, 6)])
        self.assertEqual(Chain(tapes, "A").kept(), [(3, 0, 3), (4, 0, 4), (5, 0, 5)])

    def test_back_may_be_left_out_or_named(self):
        tapes, reels = set_of_generations([("A", 1, 0), ("A", 2, 0)])
        chain = Chain(tapes, "A")
        self.assertEqual([chain.get(), chain.get(0), chain.get(back=0)], [["002"]] * 3)
        self.assertEqual([chain.get(1), chain.get(back=1)], [["001"]] * 2)


class TestWhatIsNone(ChainCase):
    def test_no_sets(self):
        for thing in NO_SETS:
            self.assert_refused(BadReel, [], Chain, thing, "A")
            self.assert_refused(BadReel, [], Chain, thing, "A", keep=5)

    def test_no_names(self):
        tapes, reels = set_with([500], [])
        for name in NO_NAMES + ["ABCDEFGHI", "A" * 99]:
            self.assert_refused(BadName, reels, Chain, tapes, name)
        for name in ["A", "0", "ABCDEFGH", "12345678"]:
            self.assertEqual(Chain(tapes, name).words(), [])

    def test_no_numbers_to_keep(self):
        tapes, reels = set_with([500], [])
        for keep in NO_WHOLE_NUMBERS + [0, -1, 100, 10 ** 5000, -10 ** 5000]:
            self.assert_refused(BadNumber, reels, Chain, tapes, "A", keep=keep)
        for keep in [1, 2, 98, 99]:
            self.assertEqual(Chain(tapes, "A", keep=keep).kept(), [])

    def test_the_order_of_refusals(self):
        tapes, reels = set_with([500], [])
        self.assert_refused(BadReel, reels, Chain, reels, "a", keep=0)
        self.assert_refused(BadReel, reels, Chain, None, "A", keep=0)
        self.assert_refused(BadReel, reels, Chain, None, "a")
        self.assert_refused(BadName, reels, Chain, tapes, "a", keep=0)

    def test_a_chain_can_be_made_of_a_set_that_cannot_be_read(self):
        reels = reels_of([500])
        chain = Chain(TapeSet(reels), "A")
        chain.tapes.new()
        self.assertEqual(chain.add([]), 1)


class TestMembers(ChainCase):
    def test_no_files(self):
        tapes, reels = set_with([500], [])
        self.assert_members(Chain(tapes, "A"), [])

    def test_no_file_of_the_name(self):
        tapes, reels = set_of_generations([("B", 1, 0), ("AA", 1, 0), ("A1", 2, 0)])
        self.assert_members(Chain(tapes, "A"), [])

    def test_generation_0_is_none(self):
        tapes, reels = set_of_generations([("A", 0, 0), ("A", 0, 5)])
        self.assert_members(Chain(tapes, "A"), [])
        tapes, reels = set_of_generations([("A", 0, 0), ("A", 1, 5), ("A", 0, 9)])
        self.assert_members(Chain(tapes, "A"), [(1, 5, 2)])

    def test_several_names(self):
        rows = [("A", 1, 0), ("B", 1, 0), ("A", 2, 0), ("C", 7, 3), ("B", 2, 0), ("B", 2, 1), ("A", 0, 0), ("A", 3, 0)]
        tapes, reels = set_of_generations(rows)
        self.assert_members(Chain(tapes, "A"), [(1, 0, 1), (2, 0, 3), (3, 0, 8)])
        self.assert_members(Chain(tapes, "B"), [(1, 0, 2), (2, 1, 6)])
        self.assert_members(Chain(tapes, "C"), [(7, 3, 4)])

    def test_generations_that_do_not_rise_along_the_set(self):
        tapes, reels = set_of_generations([("A", 9, 0), ("A", 1, 0), ("A", 10, 0), ("A", 5, 0), ("A", 2, 0)])
        self.assert_members(Chain(tapes, "A"), [(1, 0, 2), (2, 0, 5), (5, 0, 4), (9, 0, 1), (10, 0, 3)])

    def test_versions_of_one_generation(self):
        for versions, wanted in [
            ((0, 1, 2), (1, 2, 3)), ((2, 1, 0), (1, 2, 1)), ((1, 2, 1), (1, 2, 2)), ((2, 2, 2), (1, 2, 3)),
            ((2, 2, 1), (1, 2, 2)), ((0, 0, 0), (1, 0, 3)), ((99, 0, 99), (1, 99, 3)), ((10, 9, 9), (1, 10, 1)),
        ]:
            tapes, reels = set_of_generations([("A", 1, version) for version in versions])
            self.assert_members(Chain(tapes, "A"), [wanted])

    def test_the_greatest_numbers(self):
        tapes, reels = set_of_generations([("A", 9999, 99), ("A", 9998, 0), ("A", 1000, 9), ("A", 999, 10)])
        self.assert_members(Chain(tapes, "A"), [(999, 10, 4), (1000, 9, 3), (9998, 0, 2), (9999, 99, 1)])

    def test_all_short_sets(self):
        kinds = [("A", 0, 1), ("A", 1, 0), ("A", 1, 1), ("A", 2, 0), ("B", 3, 0)]
        for many in range(5):
            for rows in itertools.product(kinds, repeat=many):
                tapes, reels = set_of_generations(rows)
                chain = Chain(tapes, "A", keep=1)
                wanted = members_by_hand(rows, "A")
                self.assertEqual(chain.members(), wanted, rows)
                self.assertEqual(chain.kept(), wanted[-1:], rows)

    def test_ninety_nine_generations(self):
        tapes, reels = ninety_nine(range(99, 0, -1))
        members = [(generation, 0, 100 - generation) for generation in range(1, 100)]
        self.assertEqual(Chain(tapes, "A", keep=99).kept(), members)
        self.assertEqual(Chain(tapes, "A", keep=98).kept(), members[1:])
        self.assertEqual(Chain(tapes, "A", keep=1).kept(), members[-1:])

    def test_files_over_several_reels(self):
        tapes, reels = set_with([300] * 4, [
            File("A", twenties(20), told=(1, 0, 1, 0)), File("A", twenties(9, 50), told=(2, 0, 1, 0)),
        ])
        self.assertEqual([row[7] for row in tapes.listed()], [2, 2])
        self.assert_members(Chain(tapes, "A"), [(1, 0, 1), (2, 0, 2)])

    def test_kinds_of_what_is_told(self):
        tapes, reels = set_of_generations([("A", 1, 0), ("A", 2, 1)])
        chain = Chain(tapes, "A")
        for told in (chain.members(), chain.kept()):
            self.assertIs(type(told), list)
            for row in told:
                self.assertIs(type(row), tuple)
                self.assertEqual([type(number) for number in row], [int, int, int])
        self.assertIs(type(chain.newest()), int)
        self.assertIs(type(chain.words()), list)
        self.assertIs(type(chain.get()), list)

    def test_lists_are_new_ones(self):
        tapes, reels = set_of_generations([("A", 1, 0), ("A", 2, 1)])
        chain = Chain(tapes, "A")
        for deed in (chain.members, chain.kept, chain.words, chain.get):
            wanted = list(deed())
            told = deed()
            told.append("X")
            told[0] = None
            self.assertEqual(deed(), wanted)

    def test_reading_leaves_all_where_it_is(self):
        tapes, reels = set_with([300] * 4, [
            File("A", twenties(25), told=(1, 0, 1, 0)), File("A", twenties(2), told=(2, 0, 1, 0)),
        ])
        go_to(reels, [3, 1, 5, 2])
        reels[1].ring(False)
        before = states(reels)
        self.assert_members(Chain(tapes, "A"), [(1, 0, 1), (2, 0, 2)])
        self.assertEqual(states(reels), before)


class TestWords(ChainCase):
    def test_noughts_ahead(self):
        tapes, reels = set_of_generations([("PAY", 7, 3), ("PAY", 12, 45), ("PAY", 345, 0), ("PAY", 9999, 99)])
        wanted = ["PAY.G0007V03", "PAY.G0012V45", "PAY.G0345V00", "PAY.G9999V99"]
        self.assertEqual(Chain(tapes, "PAY", keep=4).words(), wanted)
        self.assertEqual(Chain(tapes, "PAY", keep=1).words(), wanted[3:])

    def test_names_have_no_blanks_behind(self):
        tapes, reels = set_of_generations([("A", 1, 0), ("ABCDEFGH", 2, 1)])
        self.assertEqual(Chain(tapes, "A").words(), ["A.G0001V00"])
        self.assertEqual(Chain(tapes, "ABCDEFGH").words(), ["ABCDEFGH.G0002V01"])


class TestGet(ChainCase):
    def setUp(self):
        rows = [("A", 1, 0), ("A", 2, 0), ("B", 1, 0), ("A", 2, 1), ("A", 4, 0), ("A", 3, 0)]
        self.tapes, self.reels = set_of_generations(rows)

    def test_of_those_kept(self):
        for keep, wanted in [
            (1, [["005"]]), (2, [["005"], ["006"]]), (3, [["005"], ["006"], ["004"]]),
            (4, [["005"], ["006"], ["004"], ["001"]]), (99, [["005"], ["006"], ["004"], ["001"]]),
        ]:
            chain = Chain(self.tapes, "A", keep=keep)
            self.assertEqual([chain.get(back) for back in range(len(wanted))], wanted)
            for back in [len(wanted), len(wanted) + 1, -1, -2, -len(wanted), 99, 10 ** 5000, -10 ** 5000]:
                self.assert_refused(NoFile, self.reels, chain.get, back, number=back)

    def test_no_whole_numbers(self):
        for chain in (Chain(self.tapes, "A"), Chain(self.tapes, "Z")):
            for back in NO_WHOLE_NUMBERS + ["0", [0], (0,)]:
                before = states(self.reels)
                with self.assertRaises(NoFile) as caught:
                    chain.get(back)
                self.assertIs(caught.exception.number, back)
                self.assertEqual(states(self.reels), before)

    def test_without_any(self):
        chain = Chain(self.tapes, "Z")
        for back in (0, 1, -1):
            self.assert_refused(NoFile, self.reels, chain.get, back, number=back)
        self.assert_refused(NoFile, self.reels, chain.get, number=0)

    def test_the_file_is_read_forth_over_its_reels(self):
        tapes, reels = set_with([300, 300, 300], [File("A", twenties(25), told=(1, 0, 1, 0))])
        self.assertEqual(tapes.listed()[0][7], 3)
        go_to(reels, [3, 1, 5])
        self.assertEqual(Chain(tapes, "A").get(), twenties(25))
        self.assertEqual(places(reels), [3, 1, 5])

    def test_just_its_own_blocks_are_looked_at(self):
        files = of_generations([("A", 1, 0), ("A", 2, 0)])
        rows = written([1000], files)
        rows[0][rows[0].index("001")] = "0001"
        tapes, reels = set_of([1000], rows)
        chain = Chain(tapes, "A")
        self.assertEqual(chain.get(0), ["002"])
        self.assert_refused(BadBlock, reels, chain.get, 1)
        self.assert_refused(NoFile, reels, chain.get, 2, number=2)
        self.assertEqual(chain.words(), ["A.G0001V00", "A.G0002V00"])


class TestAdd(ChainCase):
    def test_what_is_told_and_written(self):
        files = of_generations([("B", 5, 0)])
        tapes, reels = set_with([2000], files)
        chain = Chain(tapes, "A")
        for generation in range(1, 6):
            records = ["X" * generation, "", "Y" * 30]
            found = chain.add(records, day=generation + 10, ends=generation + 20)
            self.assertEqual(found, generation)
            self.assertIs(type(found), int)
            files.append(like_put("A", records, generation, 0, generation + 10, generation + 20))
            self.assert_rows(reels, written([2000], files))
            self.assertEqual(chain.newest(), generation)
            self.assertEqual(chain.get(), records)
        self.assertEqual(chain.words(), ["A.G0003V00", "A.G0004V00", "A.G0005V00"])

    def test_what_is_left_out(self):
        tapes, reels = set_with([1000], [])
        Chain(tapes, "A").add(["ONE"])
        self.assert_rows(reels, written([1000], [File("A", ["003ONE"], ("V", 40, 30), (1, 0, 1, 0))]))

    def test_one_above_the_newest_not_above_the_last(self):
        for rows, wanted in [
            ([], 1), ([("A", 0, 0)], 1), ([("B", 4, 0)], 1), ([("A", 5, 0), ("A", 2, 0)], 6), ([("A", 7, 3)], 8),
            ([("A", 9998, 0)], 9999),
        ]:
            tapes, reels = set_of_generations(rows)
            chain = Chain(tapes, "A", keep=1)
            self.assertEqual(chain.add(["X"]), wanted)
            self.assertEqual(chain.members()[-1], (wanted, 0, len(rows) + 1))

    def test_over_several_reels(self):
        records = ["R%028d" % number for number in range(16)]
        tapes, reels = set_with([300, 300, 300, 300], [])
        go_to(reels, [1, 2, 1, 3])
        self.assertEqual(Chain(tapes, "A").add(records), 1)
        self.assert_rows(reels, written([300] * 4, [like_put("A", records, 1, 0)]))
        self.assertEqual(places(reels), [0, 0, 0, 3])

    def test_records_are_not_changed(self):
        tapes, reels = set_with([1000], [])
        chain = Chain(tapes, "A")
        records = ["ONE", "TWO"]
        chain.add(records)
        chain.again(records)
        self.assertEqual(records, ["ONE", "TWO"])
        records.append("THREE")
        self.assertEqual(chain.get(), ["ONE", "TWO"])


class TestAgain(ChainCase):
    def test_what_is_told_and_written(self):
        files = of_generations([("A", 1, 0), ("A", 4, 0), ("B", 5, 0)])
        tapes, reels = set_with([2000], files)
        chain = Chain(tapes, "A")
        for version in range(1, 5):
            records = ["X" * version]
            found = chain.again(records, day=version + 10, ends=version + 20)
            self.assertEqual(found, version)
            self.assertIs(type(found), int)
            files.append(like_put("A", records, 4, version, version + 10, version + 20))
            self.assert_rows(reels, written([2000], files))
            self.assertEqual(chain.members(), [(1, 0, 1), (4, version, 3 + version)])
            self.assertEqual(chain.get(), records)

    def test_the_version_behind_the_greatest_one(self):
        for rows, wanted in [
            ([("A", 2, 5), ("A", 2, 1)], 6), ([("A", 2, 0), ("A", 1, 7)], 1), ([("A", 2, 98)], 99),
            ([("A", 2, 3), ("A", 2, 3)], 4), ([("A", 2, 0), ("B", 2, 9), ("A", 0, 9)], 1),
        ]:
            tapes, reels = set_of_generations(rows)
            chain = Chain(tapes, "A")
            self.assertEqual(chain.again(["X"]), wanted)
            self.assertEqual(chain.members()[-1], (2, wanted, len(rows) + 1))

    def test_what_is_left_out(self):
        tapes, reels = set_with([1000], [])
        chain = Chain(tapes, "A")
        chain.add([])
        chain.again(["ONE"])
        self.assertEqual(tapes.listed(), [("A", 1, 1, 0, 1, 0, 0, 1), ("A", 2, 1, 1, 1, 0, 1, 1)])

    def test_add_behind_it_has_version_0_again(self):
        tapes, reels = set_with([1000], [])
        chain = Chain(tapes, "A")
        told = [chain.add([]), chain.again([]), chain.again([]), chain.add([]), chain.again([])]
        self.assertEqual(told, [1, 1, 2, 2, 1])
        self.assertEqual(chain.words(), ["A.G0001V02", "A.G0002V01"])

    def test_without_any(self):
        for rows in ([], [("A", 0, 0)], [("B", 1, 0)]):
            tapes, reels = set_of_generations(rows)
            go_to(reels, [1, 2, 3])
            self.assert_refused(NoFile, reels, Chain(tapes, "A").again, ["X"], number=0)


class TestOtherDeeds(ChainCase):
    def test_a_chain_that_was_made_before_more_files_were_put(self):
        reels = reels_of([2000])
        tapes = TapeSet(reels)
        tapes.new()
        chain, other = Chain(tapes, "A"), Chain(tapes, "A", keep=1)
        beside = Chain(TapeSet(reels), "A")
        self.assertEqual(chain.add(["1"]), 1)
        self.assertEqual(other.add(["2"]), 2)
        self.assertEqual(beside.again(["3"]), 1)
        tapes.put("A", ["4"], generation=7, version=4)
        self.assertEqual(chain.members(), [(1, 0, 1), (2, 1, 3), (7, 4, 4)])
        self.assertEqual(chain.again(["5"]), 5)
        tapes.over(4, "B", ["6"], generation=9)
        self.assertEqual(chain.members(), [(1, 0, 1), (2, 1, 3)])
        self.assertEqual(beside.add(["7"]), 3)
        self.assertEqual([its.get() for its in (chain, other, beside)], [["7"]] * 3)
        tapes.more(["8"])
        self.assertEqual(chain.get(), ["7", "8"])
        tapes.new()
        self.assertEqual([its.newest() for its in (chain, other, beside)], [0, 0, 0])


class TestRefusals(ChainCase):
    """Add and again are refused as put is, in its order."""

    def deeds(self, chain):
        return (chain.add, chain.again)

    def one(self, lengths=(1000,)):
        tapes, reels = set_with(list(lengths), of_generations([("A", 1, 0)]))
        go_to(reels, [2] * len(reels))
        return Chain(tapes, "A"), reels

    def test_records_that_do_not_fit(self):
        chain, reels = self.one()
        for records in NO_LISTS + [["X" * 31], ["A", None], ["A", 1], ["A", b"B"], [["A"]], [True]]:
            for deed in self.deeds(chain):
                self.assert_refused(BadRecord, reels, deed, records)
        self.assertEqual(chain.add(["X" * 30]), 2)

    def test_days_that_are_none(self):
        chain, reels = self.one()
        for day in NO_WHOLE_NUMBERS + [-1, 100000, 10 ** 5000]:
            for deed in self.deeds(chain):
                self.assert_refused(BadNumber, reels, deed, [], day=day)
                self.assert_refused(BadNumber, reels, deed, [], ends=day)
        self.assertEqual([chain.add([], day=0, ends=99999), chain.add([], day=99999, ends=0)], [2, 3])

    def test_a_ring_that_is_taken_out(self):
        for which in (0, 1):
            chain, reels = self.one((1000, 1000))
            reels[which].ring(False)
            for deed in self.deeds(chain):
                self.assert_refused(NoRing, reels, deed, [])

    def test_too_few_reels(self):
        chain, reels = self.one((300, 300))
        for deed in self.deeds(chain):
            self.assert_refused(NoReel, reels, deed, ["X" * 30] * 40)
        chain, reels = self.one((150,))
        self.assertEqual(chain.add([]), 2)
        self.assertEqual(chain.again([]), 1)
        for deed in self.deeds(chain):
            self.assert_refused(NoReel, reels, deed, [])

    def test_ninety_nine_files(self):
        tapes, reels = ninety_nine([3] * 98)
        self.assertEqual(Chain(tapes, "A").again([]), 1)
        self.assertEqual(tapes.count(), 99)
        for deed in self.deeds(Chain(tapes, "A")):
            self.assert_refused(NoReel, reels, deed, [])

    def test_a_next_reel_without_a_label(self):
        chain, reels = self.one((300, 300))
        load(reels[1], ["X"], 1)
        for deed in self.deeds(chain):
            self.assert_refused(BadLabel, reels, deed, ["X" * 30] * 5)

    def test_a_generation_above_9999(self):
        tapes, reels = set_of_generations([("A", 9999, 0)])
        chain = Chain(tapes, "A")
        self.assert_refused(BadNumber, reels, chain.add, [])
        self.assert_refused(BadRecord, reels, chain.add, [1])
        reels[0].ring(False)
        self.assert_refused(BadNumber, reels, chain.add, [])
        reels[0].ring(True)
        self.assertEqual(chain.again([]), 1)

    def test_a_version_above_99(self):
        tapes, reels = set_of_generations([("A", 5, 99)])
        chain = Chain(tapes, "A")
        self.assert_refused(BadNumber, reels, chain.again, [])
        self.assert_refused(BadRecord, reels, chain.again, [1])
        reels[2].ring(False)
        self.assert_refused(BadNumber, reels, chain.again, [])
        reels[2].ring(True)
        self.assertEqual(chain.add([]), 6)

    def test_the_order(self):
        # The one that is named first: a record, a day, a ring, what cannot be read, too few reels.
        bad = {"records": ["X" * 31], "day": -1}
        for unlike in itertools.product([False, True], repeat=5):
            a_record, a_day, a_ring, a_label, a_reel = unlike
            tapes, reels = set_with([300, 300], of_generations([("A", 1, 0)]))
            chain = Chain(tapes, "A")
            records = bad["records"] if a_record else ["X" * 30] * (40 if a_reel else 1)
            day = bad["day"] if a_day else 1
            if a_label:
                reels[0].tear(3)
            if a_ring:
                reels[1].ring(False)
            wanted = [
                refusal for refusal, is_due in zip((BadRecord, BadNumber, NoRing, BadLabel, NoReel), unlike) if is_due
            ]
            for deed in self.deeds(chain):
                if wanted:
                    self.assert_refused(wanted[0], reels, deed, records, day=day)

    def test_again_without_any_comes_first(self):
        tapes, reels = set_with([300], [])
        reels[0].ring(False)
        self.assert_refused(NoFile, reels, Chain(tapes, "A").again, [1], day=-1, number=0)

    def test_too_many_files_come_behind_a_generation_and_a_ring(self):
        tapes, reels = ninety_nine([9999] * 99, 99)
        for deed in self.deeds(Chain(tapes, "A")):
            self.assert_refused(BadNumber, reels, deed, [])
        tapes, reels = ninety_nine([1] * 99)
        reels[3].ring(False)
        for deed in self.deeds(Chain(tapes, "A")):
            self.assert_refused(NoRing, reels, deed, [])


class TestSetsThatCannotBeRead(ChainCase):
    def assert_all_refused(self, refusal, tapes, reels):
        for name in ("A", "B", "Z"):
            chain = Chain(tapes, name)
            for deed in (chain.members, chain.kept, chain.newest, chain.words, chain.get):
                self.assert_refused(refusal, reels, deed)
            for back in (1, 99, -1, None, "0"):
                self.assert_refused(refusal, reels, chain.get, back)
            for deed in (chain.add, chain.again):
                self.assert_refused(refusal, reels, deed, ["X"])
                self.assert_refused(BadRecord, reels, deed, [1])

    def test_reels_without_a_label(self):
        reels = reels_of([500, 500])
        self.assert_all_refused(BadLabel, TapeSet(reels), reels)

    def test_torn_reels(self):
        files = of_generations([("A", 1, 0), ("B", 1, 0)])
        rows = written([1000], files)
        for place in range(len(rows[0])):
            tapes, reels = set_of([1000], rows)
            reels[0].tear(place)
            self.assert_all_refused(BadLabel, tapes, reels)

    def test_a_file_behind_it_that_does_not_fit(self):
        rows = written([1000], of_generations([("A", 1, 0), ("B", 1, 0)]))
        rows[0][rows[0].index(label("EOF1", "B", "R1", 1, 2, 1, 0, 1, 0, 1))] = label(
            "EOF1", "B", "R1", 1, 2, 1, 1, 1, 0, 1)
        tapes, reels = set_of([1000], rows)
        self.assert_all_refused(BadLabel, tapes, reels)

    def test_a_file_that_goes_on_beyond_the_last_reel(self):
        rows = written([300, 300], [File("A", twenties(12), told=(1, 0, 1, 0))])
        tapes, reels = set_of([300], rows[:1])
        self.assert_all_refused(NoReel, tapes, reels)


class TestRowsOfDeeds(ChainCase):
    def test_two_chains_and_the_set(self):
        """All rows of three deeds against a list that is kept beside."""
        deeds = ["add A", "again A", "add B", "again B", "put A", "put 0"]
        for names in itertools.product(deeds, repeat=3):
            tapes, reels = set_with([2000], [])
            rows = []
            for deed in names:
                word, name = deed.split()
                its = members_by_hand(rows, name)
                if deed == "put 0":
                    tapes.put("A", [])
                    rows.append(("A", 0, 0))
                elif word == "put":
                    tapes.put("A", [], generation=3, version=1)
                    rows.append(("A", 3, 1))
                elif word == "add":
                    generation = its[-1][0] + 1 if its else 1
                    self.assertEqual(Chain(tapes, name).add([]), generation)
                    rows.append((name, generation, 0))
                elif its:
                    self.assertEqual(Chain(tapes, name).again([]), its[-1][1] + 1)
                    rows.append((name, its[-1][0], its[-1][1] + 1))
                else:
                    self.assert_refused(NoFile, reels, Chain(tapes, name).again, [], number=0)
            self.assertEqual([(row[0],) + row[2:4] for row in tapes.listed()], rows)


if __name__ == "__main__":
    unittest.main()
