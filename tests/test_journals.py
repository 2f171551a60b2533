"""Points 127, 128, 130 and 133: journals that are replayed, and the judge of records."""

import copy
import random
import unittest
from collections import Counter

from rankswithin.journals import are_right, replayed
from rankswithin.notebook import Notebook
from simulated import (
    NO_COMMANDS_OF_THREE, evidence_by_others, right_records, sampled_journals, simulate, told_records,
)
from support import DEEP_LIST, DEEP_TUPLE, ODD_VALUES, OTHER_DEEP_TUPLE, name_of_wrong, not_possible, same, variants

FIRST = ("ahead", 0, 1)
SECOND = ("ahead", 1, 2)
# Watches that are decided by their own command and by later ones, and one that never is.
JOURNAL = (
    ("watch", FIRST), ("report", 0, ("within", 0, 1, 2)), ("watch", SECOND), ("report", 1, ("within", 2, 1, 3)),
    ("withdraw", 0), ("watch", ("within", 0, 1, 3)), ("see", 0, 1), ("discredit", 1), ("report", 1, SECOND),
)
NO_ITEMS = [value for value in ODD_VALUES if value not in (1, 2)] + [
    0, 8, -1, True, False, "3", (3,), [3], 3.0, 10 ** 40, DEEP_TUPLE, DEEP_LIST,
]


def journals():
    """Pairs of a number of items and a journal."""
    sizes = ((1, 10), (2, 30), (3, 60), (4, 60), (5, 40), (7, 8))
    return [(items, journal) for items, many in sizes for journal in sampled_journals(items, many)]


def records_of(items, journal):
    """The records of the notebook that is replayed."""
    return replayed(items, journal).records()


def changed(records, at, part, value):
    """The records, in one of which one part is another value."""
    record = records[at]
    return records[:at] + (record[:part] + (value,) + record[part + 1:],) + records[at + 1:]


class Replayed(unittest.TestCase):
    def test_point_127_one_command_after_another(self):
        for items, journal in journals():
            found = replayed(items, journal)
            self.assertIs(found.__class__, Notebook)
            told = simulate(items, journal)
            self.assertEqual((found.entries(), found.problem()), (told["entries"], told["problem"]))
            self.assertEqual((found.journal(), found.watches()), (told["journal"], told["watches"]))
            self.assertEqual([found.outcome(watch) for watch in range(len(found.watches()))], told["outcomes"])
            again = replayed(items, found.journal())
            self.assertEqual(again.records(), found.records())

    def test_point_127_the_notebook_goes_on(self):
        found = replayed(3, JOURNAL)
        self.assertEqual(found.undo(), JOURNAL[-1])
        self.assertEqual(found.act(("see", 2, 3)), 2)
        self.assertEqual(replayed(3, JOURNAL).journal(), JOURNAL)

    def test_no_commands_and_twenty(self):
        self.assertEqual(replayed(3, ()).journal(), ())
        twenty = (("report", 0, FIRST), ("discredit", 0)) * 10
        self.assertEqual(replayed(2, twenty).journal(), twenty)

    def test_point_133_items(self):
        for wrong in NO_ITEMS:
            for journal in ((), JOURNAL, None):
                self.assertEqual(name_of_wrong(self, replayed, wrong, journal), "items")

    def test_point_133_journal(self):
        wrongs = [value for value in ODD_VALUES if value != ()] + [
            [], list(JOURNAL), None, JOURNAL[0], "watch", (("report", 0, FIRST),) * 21, JOURNAL * 3, {}, DEEP_TUPLE,
            (("report", 0, FIRST), ("discredit", 0)) * 10 + (("report", 0, FIRST),), (JOURNAL,), (list(JOURNAL[0]),),
        ]
        for wrong in wrongs:
            self.assertEqual(name_of_wrong(self, replayed, 3, wrong), "journal")
        for wrong in NO_COMMANDS_OF_THREE:
            self.assertEqual(name_of_wrong(self, replayed, 3, (wrong,)), "journal")
            self.assertEqual(name_of_wrong(self, replayed, 3, JOURNAL + (wrong,)), "journal")
        self.assertEqual(name_of_wrong(self, replayed, 2, JOURNAL), "journal")

    def test_point_133_what_the_commands_raise(self):
        for journal, why in (
            ((("withdraw", 0),), "missing"), ((("see", 0, 1), ("withdraw", 0)), "seen"),
            ((("report", 0, FIRST), ("withdraw", 0), ("withdraw", 0)), "inactive"), ((("discredit", 3),), "silent"),
            ((("watch", FIRST),) * 5, "watches"), ((("see", 0, 1),) * 13, "full"),
            ((("report", 0, FIRST),) * 13, "full"), ((("withdraw", 0), ("discredit", 0)), "missing"),
        ):
            self.assertEqual(not_possible(self, replayed, 3, journal), why)
            self.assertEqual(not_possible(self, replayed, 3, journal + (("see", 1, 1),)), why)
            # All of the journal is checked ahead of the first command.
            self.assertEqual(name_of_wrong(self, replayed, 3, journal + (None,)), "journal")


class AreRight(unittest.TestCase):
    def test_point_129_those_of_a_notebook(self):
        for items, journal in journals():
            self.assertIs(are_right(items, records_of(items, journal)), True)

    def test_points_128_and_130_right_records_of_whatever_writer(self):
        other = Counter()
        for items, journal in journals():
            told = records_of(items, journal)
            value = told_records(items, journal, evidence_by_others)
            self.assertIs(right_records(items, value), True)
            self.assertIs(are_right(items, value), True, journal)
            words = [[evidence[0] for evidence in record[2]] for record in value]
            self.assertEqual(words, [[evidence[0] for evidence in record[2]] for record in told])
            for at in range(len(journal)):
                # Each record can have other evidence than the rest.
                mixed = value[:at] + told[at:]
                self.assertIs(are_right(items, mixed), True)
                other.update(one[0] for one, two in zip(value[at][2], told[at][2]) if one != two)
        self.assertGreater(min(other[word] for word in ("none", "certain", "impossible", "open")), 20)

    def test_point_128_the_first_ones_alone(self):
        for items, journal in journals()[::3]:
            records = records_of(items, journal)
            for many in range(len(records) + 1):
                self.assertIs(are_right(items, records[:many]), True)
            self.assertIs(are_right(items, list(records)), False)

    def test_point_128_records_left_out_doubled_or_turned(self):
        tested = Counter()
        for items, journal in journals()[::2]:
            records = records_of(items, journal)
            for at in range(len(records)):
                for value in (records[:at] + records[at + 1:], records[:at + 1] + records[at:],
                              records[:at] + records[at + 1:at + 2] + records[at:at + 1] + records[at + 2:]):
                    right = right_records(items, value)
                    self.assertIs(are_right(items, value), right, value)
                    tested[right] += 1
        self.assertGreater(min(tested.values()), 100)

    def test_point_128_active_entries(self):
        records = records_of(3, JOURNAL)
        self.assertEqual([record[1] for record in records],
                         [(), (0,), (0,), (0, 1), (1,), (1,), (1, 2), (2,), (2, 3)])
        for at, record in enumerate(records):
            for wrong in ((), (0,), (1,), (2,), (0, 1), (1, 0), (1, 2), (0, 1, 2), (2, 3), (3, 2), (2, 2), (2, 3, 3), 0,
                          None, list(record[1]), record[1] + (4,), record[1] + (0,), record[1][1:] + (0.0,),
                          (True,), (False,), (0, True), (True, 2), (1.0,), ("0",), ((0,),), set(record[1]), DEEP_TUPLE):
                value = changed(records, at, 1, wrong)
                self.assertIs(are_right(3, value), same(wrong, record[1]), (at, wrong))

    def test_point_128_evidence_left_out_doubled_or_turned(self):
        records = records_of(3, JOURNAL)
        self.assertEqual([len(record[2]) for record in records], [1, 1, 2, 2, 2, 3, 2, 1, 1])
        for at, record in enumerate(records):
            told = record[2]
            for wrong in ((), told[1:], told[:-1], told + told[-1:], told[:1] + told, list(told), None, told[0],
                          (told,), told[:-1] + (None,), told[:-1] + (list(told[-1]),), told[:-1] + ((),), told[::-1],
                          told[1:] + told[:1], told[:1] * len(told), ("open",) * len(told), DEEP_TUPLE):
                value = changed(records, at, 2, wrong)
                right = right_records(3, value)
                self.assertIs(are_right(3, value), right, (at, wrong))
                self.assertIs(right, wrong == told)

    def test_point_128_evidence_of_another_record(self):
        for items, journal in journals()[::27] + [(3, JOURNAL)]:
            records = records_of(items, journal)
            for at in range(len(records)):
                for other in range(len(records)):
                    value = changed(records, at, 2, records[other][2])
                    self.assertIs(are_right(items, value), right_records(items, value))

    def test_point_128_a_watch_is_decided_by_the_first_word_that_is_not_open(self):
        certain = ("certain", (0, 1), (("cycle", (0, 1, 0)),))
        begun = ((("watch", FIRST), (), (("open", (0, 1), (1, 0)),)), (("report", 0, FIRST), (0,), (certain,)))
        self.assertIs(are_right(2, begun), True)
        # It is told of no more behind that, whatever the verdict comes to be.
        end = (("withdraw", 0), (), ())
        self.assertIs(are_right(2, begun + (end,)), True)
        self.assertIs(are_right(2, begun + (changed((end,), 0, 2, (("open", (0, 1), (1, 0)),))[0],)), False)
        again = (("report", 3, FIRST), (0, 1), ())
        self.assertIs(are_right(2, begun + (again,)), True)
        self.assertIs(are_right(2, begun + (changed((again,), 0, 2, (certain,))[0],)), False)
        # Another watch on the same constraint is told of.
        watch = (("watch", FIRST), (0,), (certain,))
        self.assertIs(are_right(2, begun + (watch,)), True)
        self.assertIs(are_right(2, begun + (changed((watch,), 0, 2, ())[0],)), False)
        # A watch that is not decided yet is told of behind each command.
        self.assertIs(are_right(2, (begun[0], changed(begun, 1, 2, ())[1])), False)

    def test_point_128_commands_that_are_not_possible(self):
        for journal in (
            (("withdraw", 0),), (("see", 0, 1), ("withdraw", 0)), (("discredit", 3),),
            (("report", 0, FIRST), ("withdraw", 0), ("withdraw", 0)),
            (("report", 0, FIRST), ("discredit", 0), ("discredit", 0)),
        ):
            records = ()
            entries = 0
            for command in journal[:-1]:
                entries += command[0] in ("report", "see")
                active = (0,) if entries and command[0] in ("report", "see") else ()
                records += ((command, active, ()),)
            self.assertIs(are_right(3, records), True)
            for active in ((), (0,)):
                self.assertIs(are_right(3, records + ((journal[-1], active, ()),)), False)
        full = tuple((("report", 0, FIRST), tuple(range(many)), ()) for many in range(1, 14))
        self.assertIs(are_right(3, full[:12]), True)
        self.assertIs(are_right(3, full), False)
        watches = replayed(3, (("watch", FIRST),) * 4).records()
        self.assertIs(are_right(3, watches), True)
        self.assertIs(are_right(3, watches + ((("watch", FIRST), (), watches[-1][2] + watches[0][2]),)), False)

    def test_point_128_wrong_commands(self):
        for wrong in NO_COMMANDS_OF_THREE:
            for active in ((), (0,)):
                self.assertIs(are_right(3, ((wrong, active, ()),)), False)
            self.assertIs(are_right(3, changed(records_of(3, JOURNAL), 4, 0, wrong)), False)
        one = ((("see", 2, 3), (0,), ()),)
        self.assertIs(are_right(3, one), True)
        self.assertIs(are_right(2, one), False)

    def test_point_128_other_commands(self):
        records = records_of(3, JOURNAL)
        accepted = 0
        for at in range(len(records)):
            for command in JOURNAL + (("report", 5, FIRST), ("see", 2, 3), ("withdraw", 1), ("discredit", 0)):
                value = changed(records, at, 0, command)
                right = right_records(3, value)
                self.assertIs(are_right(3, value), right)
                accepted += right
        self.assertGreater(accepted, len(records))

    def test_point_128_twenty_records_and_twenty_one(self):
        journal = (("report", 0, FIRST), ("discredit", 0)) * 10
        records = records_of(3, journal)
        self.assertIs(are_right(3, records), True)
        more = (("report", 0, FIRST), (10,), ())
        self.assertIs(are_right(3, records + (more,)), False)
        self.assertIs(are_right(3, records[:18] + ((("report", 1, FIRST), (9,), ()),)), True)
        self.assertIs(are_right(3, records[:19] + records[18:19]), False)

    def test_point_128_no_records(self):
        for items in range(1, 8):
            self.assertIs(are_right(items, ()), True)
            self.assertIs(are_right(items, []), False)

    def test_point_128_parts_of_a_record(self):
        records = records_of(3, JOURNAL)
        for at, record in enumerate(records):
            for wrong in (record[:2], record[1:], record + ((),), record[::-1], list(record), None, (), (record,),
                          (record[0], record[2], record[1]), record[0], (record[0],), DEEP_TUPLE):
                value = records[:at] + (wrong,) + records[at + 1:]
                right = same(wrong, record)
                self.assertIs(are_right(3, value), right)
                self.assertIs(right_records(3, value), right)

    def test_point_128_records_that_are_changed(self):
        accepted = 0
        for items, journal in [(3, JOURNAL[:7])] + [(items, journal[:5]) for items, journal in journals()[12::40]]:
            for value in variants(records_of(items, journal)):
                right = right_records(items, value)
                self.assertIs(are_right(items, value), right)
                accepted += right
        self.assertGreater(accepted, 20)

    def test_point_128_other_numbers_of_items(self):
        for items, journal in journals()[::5]:
            records = records_of(items, journal)
            for other in range(1, 8):
                self.assertIs(are_right(other, records), right_records(other, records))

    def test_point_133_items(self):
        for wrong in NO_ITEMS:
            for records in ((), None, records_of(3, JOURNAL)):
                self.assertEqual(name_of_wrong(self, are_right, wrong, records), "items")

    def test_values_of_every_kind(self):
        odd = [value for value in ODD_VALUES if value != ()] + [
            (DEEP_TUPLE, (), ()), ((("see", 0, 1), DEEP_TUPLE, ()),), ((("see", 0, 1), (0,), DEEP_TUPLE),),
            ((("see", 0, 1), (DEEP_TUPLE,), ()),), ((("watch", FIRST), (), (DEEP_TUPLE,)),),
            ((("watch", FIRST), (), (("open", DEEP_TUPLE, OTHER_DEEP_TUPLE),)),), ((DEEP_TUPLE, (), ()),),
            ((("watch", FIRST), (), (("none", DEEP_TUPLE),)),), (("see", 0, 1), (0,), ()), ((("see", 0, 1), [0], ()),),
            ((("see", 0, 1), (0,), []),), ((["see", 0, 1], (0,), ()),), [(("see", 0, 1), (0,), ())],
            ([("see", 0, 1), (0,), ()],), ((("see", 0, 1), (0,)),), ((("see", 0, 1), (False,), ()),), ("abc",), "abc",
            ((("watch", FIRST), (), ("open",)),), ((("watch", FIRST), (), ((),)),), {}, ({},), (None,) * 20,
            ((("watch", FIRST), (), {}),), ((("see", 0, 1), {0}, ()),), ((("see", 0, 1), {0: 0}, ()),), (0,) * 21,
        ]
        for value in odd:
            for items in (1, 2, 3, 7):
                self.assertIs(are_right(items, value), False)
        self.assertIs(are_right(3, ((("see", 0, 1), (0,), ()),)), True)


class TheSameAgain(unittest.TestCase):
    def test_point_2_arguments_stay_and_results_are_equal(self):
        value = [[["see", 0, 1], [0], []]]
        before = copy.deepcopy(value)
        for _ in range(2):
            self.assertIs(are_right(3, value), False)
            self.assertEqual(value, before)
            self.assertEqual(records_of(3, JOURNAL), records_of(3, JOURNAL))

    def test_point_130_the_same_words(self):
        chance = random.Random(130)
        for items, journal in journals()[::4]:
            told = records_of(items, journal)
            other = told_records(items, journal, evidence_by_others)
            mixed = tuple(chance.choice(pair) for pair in zip(told, other))
            self.assertIs(are_right(items, mixed), True)
            self.assertEqual([[one[0] for one in record[2]] for record in mixed],
                             [[one[0] for one in record[2]] for record in told])


if __name__ == "__main__":
    unittest.main()
