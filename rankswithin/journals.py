"""Journals that are replayed, and the judge of records."""

from rankswithin.checking import are_items, check
from rankswithin.notebook import (
    MOST_COMMANDS, NEW_PAGE, Notebook, active_entries, check_items, is_command, page_behind, present_problem, why_not,
)
from rankswithin.verdicts import is_verdict


def is_journal(items, value):
    """Tell whether the value is a tuple of commands for so many items, and of no more than a journal has."""
    if not isinstance(value, tuple) or len(value) > MOST_COMMANDS:
        return False
    return all(is_command(items, one) for one in value)


def is_possible(items, page, value):
    """Tell whether the value is a triple that begins with a command which is possible on the page."""
    if not isinstance(value, tuple) or len(value) != 3 or not is_command(items, value[0]):
        return False
    return why_not(page, value[0]) is None


def are_active(entries, value):
    """Tell whether the value is the tuple of the numbers of the active entries."""
    # The kinds of the numbers come before their values: True is not the number 1.
    return are_items(len(entries), value) and value == active_entries(entries)


def are_verdicts(problem, constraints, value):
    """Tell whether the value has evidence of a verdict on each of the constraints, in their sequence."""
    if not isinstance(value, tuple) or len(value) != len(constraints):
        return False
    return all([is_verdict(problem, constraint, one) for constraint, one in zip(constraints, value)])


def is_told(items, page, waiting, record):
    """Tell whether the record, behind its command, tells of the page and of the constraints not decided before."""
    _, active, decided = record
    entries = page[0]
    return are_active(entries, active) and are_verdicts(present_problem(items, entries), waiting, decided)


def replayed(items, journal):
    """Return a notebook that has carried out the commands of the journal."""
    check_items(items)
    check(is_journal(items, journal), "journal")
    notebook = Notebook(items)
    for command in journal:
        notebook.act(command)
    return notebook


def are_right(items, records):
    """Tell whether the value is a tuple of records that hold, one after another, from a new notebook on."""
    check_items(items)
    if not isinstance(records, tuple) or len(records) > MOST_COMMANDS:
        return False
    page = NEW_PAGE
    waiting = ()
    for record in records:
        if not is_possible(items, page, record):
            return False
        page = page_behind(page, record[0])
        if record[0][0] == "watch":
            waiting = waiting + (record[0][1],)
        if not is_told(items, page, waiting, record):
            return False
        waiting = tuple([one for one, evidence in zip(waiting, record[2]) if evidence[0] == "open"])
    return True
