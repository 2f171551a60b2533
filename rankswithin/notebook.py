"""Notebooks: what sources report and what is seen, and constraints on which verdicts are watched.

An entry is a triple (source, constraint, active). A page is a pair of the entries and the watched constraints behind
some commands. The functions below, which Notebook and the judge of records share, take pages and commands as they are.
"""

from rankswithin.checking import check, is_integer, is_item, is_tagged
from rankswithin.errors import NotPossible, TooLarge
from rankswithin.problems import MOST_ITEMS, is_constraint
from rankswithin.verdicts import find_evidence, find_verdict

GREATEST_SOURCE = 5
MOST_ENTRIES = 12
MOST_WATCHES = 4
MOST_COMMANDS = 20
NEW_PAGE = ((), ())


def is_source(value):
    """Tell whether the value is a source."""
    return is_integer(value, 0, GREATEST_SOURCE)


def is_command(items, value):
    """Tell whether the value is a command for so many items."""
    if is_tagged(value, "report", 3):
        return is_source(value[1]) and is_constraint(items, value[2])
    if is_tagged(value, "see", 3):
        return is_item(items, value[1]) and is_integer(value[2], 1, items)
    if is_tagged(value, "withdraw", 2):
        return is_integer(value[1], 0, MOST_ENTRIES - 1)
    if is_tagged(value, "discredit", 2):
        return is_source(value[1])
    return is_tagged(value, "watch", 2) and is_constraint(items, value[1])


def active_entries(entries):
    """Return the numbers of the active entries, ascending."""
    return tuple([index for index, entry in enumerate(entries) if entry[2]])


def active_reports(entries, source):
    """Return the numbers of the active reports of the source, ascending."""
    return tuple([index for index in active_entries(entries) if entries[index][0] == source])


def present_problem(items, entries):
    """Return the problem with the constraints of the active entries."""
    return items, tuple([entries[index][1] for index in active_entries(entries)])


def why_not_withdrawn(entries, index):
    """Return the word for why the entry cannot be withdrawn, or None if it can be."""
    if index >= len(entries):
        return "missing"
    source, _, active = entries[index]
    if source is None:
        return "seen"
    return None if active else "inactive"


def why_not(page, command):
    """Return the word for why the command is not possible, or None if it is possible."""
    entries, watches = page
    if command[0] == "withdraw":
        return why_not_withdrawn(entries, command[1])
    if command[0] == "discredit":
        return None if active_reports(entries, command[1]) else "silent"
    if command[0] == "watch":
        return None if len(watches) < MOST_WATCHES else "watches"
    return None if len(entries) < MOST_ENTRIES else "full"


def with_inactive(entries, indexes):
    """Return the entries, of which those with these numbers are not active any more."""
    return tuple([
        (source, constraint, active and index not in indexes)
        for index, (source, constraint, active) in enumerate(entries)
    ])


def page_behind(page, command):
    """Return the page behind a command that is possible."""
    entries, watches = page
    if command[0] == "report":
        return entries + ((command[1], command[2], True),), watches
    if command[0] == "see":
        _, item, place = command
        return entries + ((None, ("within", item, place, place), True),), watches
    if command[0] == "withdraw":
        return with_inactive(entries, (command[1],)), watches
    if command[0] == "discredit":
        return with_inactive(entries, active_reports(entries, command[1])), watches
    return entries, watches + (command[1],)


def for_each_watch(watches, outcomes):
    """Return the outcomes before a command, for each watch behind it: one that begins by it had none."""
    return outcomes + (None,) * (len(watches) - len(outcomes))


def outcome_by(problem, constraint, index):
    """Return the outcome that the watch on the constraint has by the command with the index, or None."""
    word = find_verdict(problem, constraint)
    return None if word == "open" else (word, index)


def outcomes_behind(items, page, outcomes, index):
    """Return the outcomes of the watches behind the command with the index, by those before it."""
    entries, watches = page
    problem = present_problem(items, entries)
    return tuple([
        outcome_by(problem, constraint, index) if before is None else before
        for constraint, before in zip(watches, for_each_watch(watches, outcomes))
    ])


def evidence_behind(items, page, outcomes):
    """Return told evidence of a verdict for each watch on the page that was not decided by the outcomes before."""
    entries, watches = page
    problem = present_problem(items, entries)
    return tuple([
        find_evidence(problem, constraint)
        for constraint, before in zip(watches, for_each_watch(watches, outcomes)) if before is None
    ])


def check_items(items):
    """Raise BadValue if the argument is not a number of items."""
    check(is_integer(items, 1, MOST_ITEMS), "items")


class Notebook:
    """A notebook with a number of items."""

    def __init__(self, items):
        check_items(items)
        self._many = items
        self._commands = []
        # The page and the outcomes before the first command, and behind each one: so undoing only drops the last ones.
        self._pages = [NEW_PAGE]
        self._outcomes = [()]

    def act(self, command):
        """Carry out the command, and return the number of the active entries behind it."""
        check(is_command(self._many, command), "command")
        word = why_not(self._pages[-1], command)
        if word is not None:
            raise NotPossible(word)
        if len(self._commands) == MOST_COMMANDS:
            raise TooLarge("commands")
        page = page_behind(self._pages[-1], command)
        outcomes = outcomes_behind(self._many, page, self._outcomes[-1], len(self._commands))
        self._commands.append(command)
        self._pages.append(page)
        self._outcomes.append(outcomes)
        return len(active_entries(page[0]))

    def undo(self):
        """Undo the last command, and return it, or None if there is none."""
        if not self._commands:
            return None
        self._pages.pop()
        self._outcomes.pop()
        return self._commands.pop()

    def entries(self):
        """Return the entries, each with its source, its constraint, and whether it is active."""
        return self._pages[-1][0]

    def problem(self):
        """Return the present problem."""
        return present_problem(self._many, self._pages[-1][0])

    def journal(self):
        """Return the commands in the journal."""
        return tuple(self._commands)

    def watches(self):
        """Return the constraints that are watched."""
        return self._pages[-1][1]

    def outcome(self, watch):
        """Return the outcome of the watch, or None if it is not decided."""
        check(is_integer(watch, 0, MOST_WATCHES - 1), "watch")
        outcomes = self._outcomes[-1]
        if watch >= len(outcomes):
            raise NotPossible("missing")
        return outcomes[watch]

    def records(self):
        """Return for each command the active entries behind it, and evidence for each watch not decided before."""
        # The outcomes are those before each command, the pages those behind it.
        return tuple([
            (command, active_entries(page[0]), evidence_behind(self._many, page, outcomes))
            for command, page, outcomes in zip(self._commands, self._pages[1:], self._outcomes)
        ])

    def twin(self):
        """Return a notebook with the same items and the same journal."""
        other = Notebook(self._many)
        other._commands = list(self._commands)
        other._pages = list(self._pages)
        other._outcomes = list(self._outcomes)
        return other
