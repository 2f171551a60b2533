"""Points 122 to 127 and 129 to 134: notebooks, command by command."""

import copy
import random
import unittest
from collections import Counter

from rankswithin.errors import NotPossible, RankError
from rankswithin.journals import are_right
from rankswithin.notebook import Notebook
from rankswithin.verdicts import verdict
from simulated import NO_COMMANDS_OF_THREE, any_command, sampled_journals, simulate, told_records
from support import (
    DEEP_LIST, DEEP_TUPLE, ODD_VALUES, all_rankings, every_constraint, good_rankings, name_of_wrong, not_possible,
    sampled_problems, told_evidence, told_verdict, too_large,
)

FIRST = ("ahead", 0, 1)
SECOND = ("ahead", 1, 2)


def journals():
    """Pairs of a number of items and a journal."""
    sizes = ((1, 10), (2, 30), (3, 60), (4, 60), (5, 40), (7, 8))
    return [(items, journal) for items, many in sizes for journal in sampled_journals(items, many)]


def notebook_of(items, journal):
    """A notebook that has carried out the commands."""
    notebook = Notebook(items)
    for command in journal:
        notebook.act(command)
    return notebook


def told_by(notebook):
    """All that the notebook tells but its records."""
    watches = notebook.watches()
    return {
        "entries": notebook.entries(), "problem": notebook.problem(), "journal": notebook.journal(),
        "watches": watches, "outcomes": [notebook.outcome(watch) for watch in range(len(watches))],
    }


def all_by(notebook):
    """All that the notebook tells."""
    return told_by(notebook), notebook.records()


class Commands(unittest.TestCase):
    def test_point_122_a_new_notebook(self):
        for items in range(1, 8):
            notebook = Notebook(items)
            self.assertEqual(told_by(notebook), simulate(items, ()))
            self.assertEqual((notebook.entries(), notebook.problem(), notebook.journal()), ((), (items, ()), ()))
            self.assertEqual((notebook.watches(), notebook.records(), notebook.undo()), ((), (), None))

    def test_points_122_to_124_all_journals(self):
        counted = Counter()
        for items, journal in journals():
            notebook = Notebook(items)
            for at, command in enumerate(journal):
                found = notebook.act(command)
                told = simulate(items, journal[:at + 1])
                self.assertEqual(told_by(notebook), told, journal[:at + 1])
                self.assertIs(found.__class__, int)
                self.assertEqual(found, len(told["problem"][1]))
                counted[command[0]] += 1
        for word in ("report", "see", "withdraw", "discredit", "watch"):
            self.assertGreater(counted[word], 150)

    def test_point_123_report(self):
        notebook = Notebook(3)
        self.assertEqual(notebook.act(("report", 0, FIRST)), 1)
        self.assertEqual(notebook.act(("report", 5, ("within", 2, 1, 3))), 2)
        self.assertEqual(notebook.act(("report", 0, FIRST)), 3)
        self.assertEqual(notebook.entries(), ((0, FIRST, True), (5, ("within", 2, 1, 3), True), (0, FIRST, True)))
        self.assertEqual(notebook.problem(), (3, (FIRST, ("within", 2, 1, 3), FIRST)))

    def test_point_123_see(self):
        notebook = Notebook(3)
        self.assertEqual(notebook.act(("see", 2, 1)), 1)
        self.assertEqual(notebook.act(("see", 0, 3)), 2)
        self.assertEqual(notebook.act(("see", 2, 1)), 3)
        self.assertEqual(notebook.act(("see", 2, 2)), 4)
        told = (None, ("within", 2, 1, 1), True)
        self.assertEqual(notebook.entries()[0], told)
        self.assertEqual(notebook.entries()[2], told)
        self.assertEqual(notebook.problem()[1][1:], (("within", 0, 3, 3), ("within", 2, 1, 1), ("within", 2, 2, 2)))

    def test_point_123_full(self):
        for first in (("report", 1, FIRST), ("see", 0, 1)):
            notebook = notebook_of(2, [first] * 12)
            self.assertEqual(len(notebook.entries()), 12)
            before = all_by(notebook)
            self.assertEqual(not_possible(self, notebook.act, ("report", 2, FIRST)), "full")
            self.assertEqual(not_possible(self, notebook.act, ("see", 1, 2)), "full")
            self.assertEqual(all_by(notebook), before)
            # The others are possible, and entries that are not active count as well.
            self.assertEqual(notebook.act(("watch", FIRST)), 12)
        notebook = notebook_of(2, [("report", 1, FIRST)] * 12 + [("withdraw", 3), ("discredit", 1)])
        self.assertEqual(notebook.problem(), (2, ()))
        self.assertEqual(not_possible(self, notebook.act, ("report", 2, FIRST)), "full")
        self.assertEqual(not_possible(self, notebook.act, ("see", 1, 2)), "full")

    def test_point_123_withdraw(self):
        notebook = notebook_of(3, [("report", 0, FIRST), ("see", 2, 3), ("report", 1, SECOND), ("report", 0, SECOND)])
        self.assertEqual(notebook.act(("withdraw", 2)), 3)
        self.assertEqual([entry[2] for entry in notebook.entries()], [True, True, False, True])
        self.assertEqual(notebook.act(("withdraw", 0)), 2)
        self.assertEqual(notebook.problem(), (3, (("within", 2, 3, 3), SECOND)))
        for entry in (4, 5, 11):
            self.assertEqual(not_possible(self, notebook.act, ("withdraw", entry)), "missing")
        self.assertEqual(not_possible(self, notebook.act, ("withdraw", 1)), "seen")
        for entry in (0, 2):
            self.assertEqual(not_possible(self, notebook.act, ("withdraw", entry)), "inactive")
        self.assertEqual(notebook.act(("withdraw", 3)), 1)

    def test_point_123_withdraw_the_last_entry_and_one_that_is_discredited(self):
        notebook = notebook_of(3, [("report", 0, FIRST)] * 12)
        self.assertEqual(notebook.act(("withdraw", 11)), 11)
        self.assertEqual(notebook.act(("discredit", 0)), 0)
        self.assertEqual(not_possible(self, notebook.act, ("withdraw", 5)), "inactive")
        for entry in range(12):
            self.assertEqual(not_possible(self, Notebook(3).act, ("withdraw", entry)), "missing")

    def test_point_123_discredit(self):
        notebook = notebook_of(3, [("report", 0, FIRST), ("report", 1, SECOND), ("report", 0, SECOND), ("see", 0, 1)])
        self.assertEqual(notebook.act(("discredit", 0)), 2)
        self.assertEqual([entry[2] for entry in notebook.entries()], [False, True, False, True])
        self.assertEqual(not_possible(self, notebook.act, ("discredit", 0)), "silent")
        for source in (2, 3, 4, 5):
            self.assertEqual(not_possible(self, notebook.act, ("discredit", source)), "silent")
        # What it reports later is active.
        self.assertEqual(notebook.act(("report", 0, FIRST)), 3)
        self.assertEqual([entry[2] for entry in notebook.entries()], [False, True, False, True, True])
        self.assertEqual(notebook.act(("discredit", 0)), 2)
        self.assertEqual(notebook.act(("withdraw", 1)), 1)
        self.assertEqual(not_possible(self, notebook.act, ("discredit", 1)), "silent")
        # What was seen has no source, and stays active.
        self.assertEqual(notebook.entries()[3], (None, ("within", 0, 1, 1), True))

    def test_point_123_watch(self):
        notebook = Notebook(3)
        for many in range(4):
            self.assertEqual(notebook.act(("watch", FIRST if many % 2 else SECOND)), 0)
        self.assertEqual(notebook.watches(), (SECOND, FIRST, SECOND, FIRST))
        before = all_by(notebook)
        self.assertEqual(not_possible(self, notebook.act, ("watch", FIRST)), "watches")
        self.assertEqual(not_possible(self, notebook.act, ("watch", ("within", 0, 1, 3))), "watches")
        self.assertEqual(all_by(notebook), before)
        # Watches that are decided count as well.
        decided = notebook_of(3, [("see", 0, 1)] + [("watch", FIRST)] * 4)
        self.assertEqual([decided.outcome(watch) for watch in range(4)], [("certain", at) for at in range(1, 5)])
        self.assertEqual(not_possible(self, decided.act, ("watch", FIRST)), "watches")

    def test_point_123_commands_that_are_not_possible_change_nothing(self):
        counted = Counter()
        chance = random.Random(123)
        for items, journal in journals()[::2]:
            notebook = notebook_of(items, journal[:19])
            before = all_by(notebook)
            for _ in range(20):
                command = any_command(chance, items, tuple(range(items)))
                try:
                    notebook.act(command)
                    notebook.undo()
                except NotPossible as error:
                    counted[error.why] += 1
                self.assertEqual(all_by(notebook), before)
        for word in ("full", "missing", "seen", "inactive", "silent", "watches"):
            self.assertGreater(counted[word], 20)

    def test_point_125_what_is_in_the_present_problem(self):
        for items, journal in journals():
            notebook = notebook_of(items, journal)
            present = []
            entry = 0
            for at, command in enumerate(journal):
                if command[0] == "see":
                    present.append(("within", command[1], command[2], command[2]))
                elif command[0] == "report":
                    later = journal[at + 1:]
                    if ("withdraw", entry) not in later and ("discredit", command[1]) not in later:
                        present.append(command[2])
                entry += command[0] in ("see", "report")
            self.assertEqual(notebook.problem(), (items, tuple(present)))

    def test_point_126_the_constraints_alone_count(self):
        for problem in sampled_problems(3, 12):
            some = sorted(set(problem[1]))
            for more in every_constraint(3)[::3]:
                told = verdict((3, tuple(some)), more)
                for row in (some, some[::-1], (some + some)[:12] if len(some) > 6 else some + some):
                    notebook = notebook_of(3, [("report", 0, one) for one in row] + [("watch", more)])
                    found = notebook.outcome(0)
                    self.assertEqual("open" if found is None else found[0], told)
                    self.assertEqual(notebook.records()[-1][2][0][0], told)


class Watches(unittest.TestCase):
    def test_point_124_decided_by_its_own_command(self):
        for command, word in ((("see", 0, 1), "certain"), (("see", 0, 3), "impossible")):
            notebook = notebook_of(3, [command, ("watch", FIRST)])
            self.assertEqual(notebook.outcome(0), (word, 1))
        notebook = notebook_of(3, [("see", 0, 1), ("see", 0, 2), ("watch", FIRST)])
        self.assertEqual(notebook.outcome(0), ("none", 2))
        notebook = notebook_of(3, [("watch", ("within", 2, 1, 3))])
        self.assertEqual(notebook.outcome(0), ("certain", 0))

    def test_point_124_decided_by_a_later_command(self):
        notebook = notebook_of(3, [("watch", FIRST), ("watch", SECOND), ("report", 2, ("within", 0, 1, 2))])
        self.assertEqual((notebook.outcome(0), notebook.outcome(1)), (None, None))
        notebook.act(("report", 2, ("within", 1, 3, 3)))
        self.assertEqual((notebook.outcome(0), notebook.outcome(1)), (("certain", 3), ("impossible", 3)))
        notebook.act(("report", 2, FIRST))
        self.assertEqual((notebook.outcome(0), notebook.outcome(1)), (("certain", 3), ("impossible", 3)))

    def test_point_124_never_decided(self):
        journal = [("watch", FIRST)] + [("report", 0, ("within", 2, 1, 3))] * 12 + [("withdraw", 3), ("discredit", 0)]
        notebook = notebook_of(3, journal)
        self.assertIsNone(notebook.outcome(0))

    def test_point_124_the_outcome_stays(self):
        notebook = notebook_of(3, [("watch", FIRST), ("report", 0, FIRST)])
        self.assertEqual(notebook.outcome(0), ("certain", 1))
        for command in (("withdraw", 0), ("report", 1, ("ahead", 1, 0)), ("report", 1, FIRST), ("discredit", 1)):
            notebook.act(command)
            self.assertEqual(notebook.outcome(0), ("certain", 1))
        # A watch that begins later tells what the present problem says of the same constraint.
        notebook.act(("watch", FIRST))
        self.assertEqual((notebook.outcome(0), notebook.outcome(1)), (("certain", 1), None))
        notebook.act(("see", 1, 1))
        self.assertEqual((notebook.outcome(0), notebook.outcome(1)), (("certain", 1), ("impossible", 7)))

    def test_point_124_each_way(self):
        counted = Counter()
        for items, journal in journals():
            notebook = notebook_of(items, journal)
            begun = [at for at, command in enumerate(journal) if command[0] == "watch"]
            for watch, at in enumerate(begun):
                found = notebook.outcome(watch)
                if found is None:
                    counted["never"] += 1
                else:
                    counted[(found[0], "own" if found[1] == at else "later" if found[1] > at else "before")] += 1
        self.assertEqual(len(counted), 7)
        self.assertGreater(min(counted.values()), 20)

    def test_point_131_withdrawing_leaves_open_what_is_open(self):
        left = 0
        for items, journal in journals():
            notebook = notebook_of(items, journal[:-1][:19])
            for entry, (source, _, active) in enumerate(notebook.entries()):
                if source is not None and active:
                    before = [verdict(notebook.problem(), one) for one in every_constraint(items)[::3]]
                    notebook.act(("withdraw", entry))
                    after = [verdict(notebook.problem(), one) for one in every_constraint(items)[::3]]
                    self.assertEqual([new for old, new in zip(before, after) if old == "open"],
                                     ["open"] * before.count("open"))
                    left += before.count("open")
                    notebook.undo()
        self.assertGreater(left, 500)


class Undo(unittest.TestCase):
    def test_point_127_everything_is_as_it_was(self):
        for items, journal in journals():
            notebook = notebook_of(items, journal)
            for at in range(len(journal) - 1, -1, -1):
                self.assertEqual(notebook.undo(), journal[at])
                self.assertEqual(told_by(notebook), simulate(items, journal[:at]))
            self.assertIsNone(notebook.undo())
            self.assertIsNone(notebook.undo())
            self.assertEqual(all_by(notebook), all_by(Notebook(items)))

    def test_point_127_each_kind_of_command(self):
        begun = [("report", 0, FIRST), ("see", 2, 3), ("report", 1, SECOND), ("watch", ("ahead", 1, 0))]
        for command in (("report", 3, FIRST), ("see", 0, 1), ("withdraw", 2), ("withdraw", 0), ("discredit", 1),
                        ("watch", SECOND), ("watch", ("within", 0, 1, 3))):
            notebook = notebook_of(3, begun)
            before = all_by(notebook)
            notebook.act(command)
            self.assertNotEqual(all_by(notebook), before)
            self.assertEqual(notebook.undo(), command)
            self.assertEqual(all_by(notebook), before)

    def test_point_127_a_command_that_decided_a_watch(self):
        notebook = notebook_of(3, [("watch", FIRST), ("watch", SECOND)])
        notebook.act(("see", 0, 1))
        self.assertEqual((notebook.outcome(0), notebook.outcome(1)), (("certain", 2), None))
        self.assertEqual(notebook.undo(), ("see", 0, 1))
        self.assertEqual((notebook.outcome(0), notebook.outcome(1)), (None, None))
        notebook.act(("see", 0, 3))
        self.assertEqual((notebook.outcome(0), notebook.outcome(1)), (("impossible", 2), None))
        notebook.undo()
        notebook.undo()
        self.assertEqual(not_possible(self, notebook.outcome, 1), "missing")
        self.assertIsNone(notebook.outcome(0))

    def test_point_127_an_outcome_of_an_earlier_command_stays(self):
        notebook = notebook_of(3, [("watch", FIRST), ("see", 0, 1), ("report", 0, FIRST), ("withdraw", 1)])
        for _ in range(2):
            notebook.undo()
            self.assertEqual(notebook.outcome(0), ("certain", 1))

    def test_point_127_further_commands_behind_it(self):
        for items, journal in journals()[::3]:
            notebook = Notebook(items)
            for command in journal:
                notebook.act(command)
                notebook.undo()
                notebook.act(command)
            self.assertEqual(all_by(notebook), all_by(notebook_of(items, journal)))

    def test_point_127_undone_commands_do_not_count(self):
        notebook = notebook_of(2, [("report", 0, FIRST)] * 12)
        notebook.undo()
        self.assertEqual(notebook.act(("see", 0, 1)), 12)
        notebook = notebook_of(2, [("report", 0, FIRST)] + [("watch", FIRST)] * 4)
        notebook.undo()
        self.assertEqual(notebook.act(("watch", ("ahead", 1, 0))), 1)
        notebook = notebook_of(2, [("report", 0, FIRST), ("discredit", 0)] * 10)
        self.assertEqual(too_large(self, notebook.act, ("see", 0, 1)), "commands")
        notebook.undo()
        self.assertEqual(notebook.act(("see", 0, 1)), 2)
        self.assertEqual(len(notebook.journal()), 20)


class Twins(unittest.TestCase):
    def test_point_132_the_same_items_and_the_same_journal(self):
        for items, journal in journals():
            notebook = notebook_of(items, journal)
            self.assertEqual(all_by(notebook.twin()), all_by(notebook))
            self.assertIs(notebook.twin().__class__, Notebook)

    def test_point_132_what_is_done_to_the_one_does_not_change_the_other(self):
        for items, journal in journals()[::3]:
            if len(journal) < 2:
                continue
            half = len(journal) // 2
            notebook = notebook_of(items, journal[:half])
            twin = notebook.twin()
            for command in journal[half:]:
                notebook.act(command)
            self.assertEqual(told_by(twin), simulate(items, journal[:half]))
            self.assertEqual(told_by(notebook), simulate(items, journal))
            while twin.undo() is not None:
                pass
            self.assertEqual(told_by(notebook), simulate(items, journal))
            self.assertEqual(told_by(twin), simulate(items, ()))
            other = notebook.twin()
            for _ in journal[half:]:
                notebook.undo()
            self.assertEqual(told_by(other), simulate(items, journal))
            self.assertEqual(told_by(notebook), simulate(items, journal[:half]))
            # A twin can be undone to commands that stood in the journal before it was one.
            self.assertEqual(other.undo(), journal[-1])

    def test_point_132_twins_go_on_apart(self):
        notebook = notebook_of(3, [("watch", FIRST), ("report", 0, ("within", 0, 1, 2))])
        twin = notebook.twin()
        self.assertEqual((notebook.act(("see", 0, 1)), twin.act(("see", 1, 1))), (2, 2))
        self.assertEqual((notebook.outcome(0), twin.outcome(0)), (("certain", 2), ("impossible", 2)))
        self.assertEqual(twin.act(("withdraw", 0)), 1)
        self.assertEqual(notebook.entries()[0], (0, ("within", 0, 1, 2), True))
        self.assertEqual(twin.entries()[0], (0, ("within", 0, 1, 2), False))

    def test_a_twin_of_a_new_notebook(self):
        self.assertEqual(all_by(Notebook(4).twin()), all_by(Notebook(4)))
        self.assertIsNone(Notebook(4).twin().undo())


class Records(unittest.TestCase):
    def test_point_129_told_evidence(self):
        words = Counter()
        for items, journal in journals():
            found = notebook_of(items, journal).records()
            self.assertEqual(found, told_records(items, journal, told_evidence), journal)
            self.assertIs(found.__class__, tuple)
            self.assertIs(are_right(items, found), True)
            words += Counter(value[0] for record in found for value in record[2])
        self.assertGreater(min(words[word] for word in ("none", "certain", "impossible", "open")), 50)

    def test_point_129_words(self):
        notebook = notebook_of(3, [("watch", FIRST), ("report", 0, ("within", 0, 1, 2)), ("watch", SECOND),
                                   ("see", 1, 1), ("withdraw", 0), ("watch", FIRST)])
        words = [[value[0] for value in record[2]] for record in notebook.records()]
        self.assertEqual(words, [["open"], ["open"], ["open", "open"], ["impossible", "certain"], [], ["impossible"]])
        self.assertEqual([record[1] for record in notebook.records()], [(), (0,), (0,), (0, 1), (1,), (1,)])
        self.assertEqual([record[0] for record in notebook.records()], list(notebook.journal()))

    def test_point_129_undone_commands_have_no_records(self):
        for items, journal in journals()[::5]:
            notebook = notebook_of(items, journal)
            records = notebook.records()
            while notebook.undo() is not None:
                records = records[:-1]
                self.assertEqual(notebook.records(), records)


class WrongArguments(unittest.TestCase):
    def test_point_133_items(self):
        for wrong in [value for value in ODD_VALUES if value not in (1, 2)] + [
            0, 8, -1, True, False, "3", (3,), [3], 3.0, 10 ** 40, DEEP_TUPLE, DEEP_LIST,
        ]:
            self.assertEqual(name_of_wrong(self, Notebook, wrong), "items")

    def test_point_133_command(self):
        for journal in ([], [("report", 0, FIRST), ("watch", FIRST)], [("report", 0, FIRST)] * 12,
                        [("report", 0, FIRST), ("discredit", 0)] * 10, [("watch", FIRST)] * 4):
            notebook = notebook_of(3, journal)
            before = all_by(notebook)
            for wrong in NO_COMMANDS_OF_THREE:
                self.assertEqual(name_of_wrong(self, notebook.act, wrong), "command")
            self.assertEqual(all_by(notebook), before)

    def test_point_133_commands_for_another_number_of_items(self):
        notebook = Notebook(2)
        for wrong in (("report", 0, ("ahead", 0, 2)), ("report", 0, ("within", 0, 1, 3)), ("see", 2, 1), ("see", 0, 3),
                      ("watch", ("ahead", 2, 0)), ("watch", ("within", 1, 3, 3))):
            self.assertEqual(name_of_wrong(self, notebook.act, wrong), "command")
            self.assertIs(Notebook(3).act(wrong).__class__, int)

    def test_point_133_numbers_that_are_just_let(self):
        notebook = Notebook(7)
        for command in (("report", 0, ("within", 6, 1, 7)), ("report", 5, ("ahead", 6, 0)), ("see", 0, 1),
                        ("see", 6, 7), ("withdraw", 0), ("discredit", 5), ("watch", ("ahead", 6, 5)),
                        ("watch", ("within", 0, 7, 7))):
            self.assertIs(notebook.act(command).__class__, int)
        for command in (("withdraw", 11), ("discredit", 0), ("discredit", 5)):
            self.assertIn(not_possible(self, notebook.act, command), ("missing", "silent"))

    def test_point_133_watch(self):
        notebook = notebook_of(3, [("watch", FIRST), ("watch", SECOND)])
        for wrong in [value for value in ODD_VALUES if value not in (0, 1, 2)] + [
            -1, 4, 10 ** 40, True, False, 0.0, "0", (0,), [0], None, DEEP_TUPLE, FIRST,
        ]:
            self.assertEqual(name_of_wrong(self, notebook.outcome, wrong), "watch")
            self.assertEqual(name_of_wrong(self, Notebook(3).outcome, wrong), "watch")

    def test_point_133_no_watch_with_the_number(self):
        notebook = Notebook(3)
        for many in range(5):
            for watch in range(4):
                if watch < many:
                    self.assertIsNone(notebook.outcome(watch))
                else:
                    self.assertEqual(not_possible(self, notebook.outcome, watch), "missing")
            if many < 4:
                notebook.act(("watch", FIRST))

    def test_point_133_the_twenty_first_command(self):
        notebook = notebook_of(3, [("report", 0, FIRST), ("discredit", 0)] * 9 + [("watch", FIRST), ("see", 0, 1)])
        self.assertEqual(len(notebook.journal()), 20)
        before = all_by(notebook)
        for command in (("report", 0, FIRST), ("see", 2, 3), ("watch", SECOND)):
            self.assertEqual(too_large(self, notebook.act, command), "commands")
        # What is not possible at all is told ahead of it.
        for command, why in ((("withdraw", 10), "missing"), (("withdraw", 9), "seen"), (("withdraw", 0), "inactive"),
                             (("discredit", 0), "silent")):
            self.assertEqual(not_possible(self, notebook.act, command), why)
        self.assertEqual(name_of_wrong(self, notebook.act, ("withdraw", 12)), "command")
        self.assertEqual(all_by(notebook), before)
        self.assertEqual((notebook.undo(), notebook.act(("watch", SECOND))), (("see", 0, 1), 0))

    def test_point_133_full_and_watches_ahead_of_too_many_commands(self):
        begun = [("report", 0, FIRST)] * 12 + [("watch", FIRST)] * 4
        full = notebook_of(3, begun + [("withdraw", at) for at in range(4)])
        self.assertEqual(len(full.journal()), 20)
        self.assertEqual(not_possible(self, full.act, ("report", 0, FIRST)), "full")
        self.assertEqual(not_possible(self, full.act, ("see", 0, 1)), "full")
        self.assertEqual(not_possible(self, full.act, ("watch", FIRST)), "watches")
        self.assertEqual(too_large(self, full.act, ("discredit", 0)), "commands")
        self.assertEqual(too_large(self, full.act, ("withdraw", 4)), "commands")

    def test_point_8_nothing_changes_if_a_call_raises_an_error(self):
        for items, journal in journals()[::7]:
            notebook = notebook_of(items, journal)
            before = all_by(notebook)
            for call, argument in ((notebook.act, None), (notebook.act, ("withdraw", 12)), (notebook.outcome, 4),
                                   (notebook.act, ("discredit", 6)), (notebook.act, ("watch", FIRST[:2]))):
                with self.assertRaises(RankError):
                    call(argument)
                self.assertEqual(all_by(notebook), before)


class TheSameAgain(unittest.TestCase):
    def test_points_2_and_3_what_is_returned_and_passed(self):
        commands = [("watch", FIRST), ("report", 0, FIRST), ("see", 0, 1)]
        before = copy.deepcopy(commands)
        notebook = notebook_of(3, commands)
        self.assertEqual(commands, before)
        for found in (notebook.entries(), notebook.problem(), notebook.journal(), notebook.watches(),
                      notebook.records(), notebook.outcome(0), notebook.undo()):
            self.assertIs(found.__class__, tuple)
        self.assertEqual([row.__class__ for row in notebook.entries()], [tuple])
        self.assertEqual([row.__class__ for row in notebook.records()], [tuple] * 2)

    def test_point_2_two_notebooks_are_apart(self):
        one, other = Notebook(3), Notebook(3)
        one.act(("watch", FIRST))
        one.act(("see", 0, 1))
        self.assertEqual(all_by(other), all_by(Notebook(3)))
        for command in one.journal():
            other.act(command)
        self.assertEqual(all_by(one), all_by(other))

    def test_point_134(self):
        notebook = notebook_of(3, [("watch", FIRST), ("report", 0, ("within", 0, 1, 2)), ("report", 1, SECOND)])
        self.assertIsNone(notebook.outcome(0))
        self.assertEqual(notebook.act(("report", 0, ("within", 2, 2, 2))), 3)
        self.assertEqual((good_rankings(notebook.problem()), notebook.outcome(0)), ([], ("none", 3)))

    def test_the_verdicts_of_all_rankings(self):
        for ranking in all_rankings(3):
            notebook = notebook_of(3, [("watch", FIRST)] + [("see", item, at + 1) for at, item in enumerate(ranking)])
            self.assertEqual(told_verdict(notebook.problem(), FIRST), notebook.outcome(0)[0])


if __name__ == "__main__":
    unittest.main()
