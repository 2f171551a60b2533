"""Notebooks for the tests: what is written down behind the commands of a journal, told without the program."""

import random
from functools import lru_cache

from support import (
    DEEP_LIST, DEEP_TUPLE, NO_CONSTRAINTS_OF_THREE, ODD_VALUES, contradictions_by_others, denying, every_constraint,
    good_rankings, is_plain_integer, meets, plus, right_verdict, same, told_verdict,
)


def active_constraints(entries):
    """The constraints of the active entries, in their sequence."""
    return tuple(constraint for _, constraint, active in entries if active)


def why_refused(entries, watches, command):
    """The word for why the command is not possible behind what stands there, or None (point 123)."""
    word = command[0]
    if word in ("report", "see"):
        return "full" if len(entries) == 12 else None
    if word == "watch":
        return "watches" if len(watches) == 4 else None
    if word == "discredit":
        return None if any(source == command[1] and active for source, _, active in entries) else "silent"
    if command[1] not in range(len(entries)):
        return "missing"
    source, _, active = entries[command[1]]
    return "seen" if source is None else None if active else "inactive"


def write_down(entries, watches, command):
    """Carry out a command that is possible: change the entries or the watches."""
    word = command[0]
    if word == "report":
        entries.append((command[1], command[2], True))
    elif word == "see":
        entries.append((None, ("within", command[1], command[2], command[2]), True))
    elif word == "watch":
        watches.append(command[1])
    else:
        for at, (source, constraint, _) in enumerate(entries):
            if (word == "withdraw" and at == command[1]) or (word == "discredit" and source == command[1]):
                entries[at] = (source, constraint, False)


def simulate(items, journal):
    """What a notebook has behind the commands of the journal: a dict of all that it tells but its records."""
    entries, watches, outcomes = [], [], {}
    for index, command in enumerate(journal):
        assert why_refused(entries, watches, command) is None
        write_down(entries, watches, command)
        problem = (items, active_constraints(entries))
        for watch, constraint in enumerate(watches):
            if watch not in outcomes and told_verdict(problem, constraint) != "open":
                outcomes[watch] = (told_verdict(problem, constraint), index)
    return {
        "entries": tuple(entries), "problem": (items, active_constraints(entries)), "journal": tuple(journal),
        "watches": tuple(watches), "outcomes": [outcomes.get(watch) for watch in range(len(watches))],
    }


def any_command(chance, items, hidden):
    """A command for so many items: what is reported is mostly such as the hidden ranking satisfies."""
    choice = every_constraint(items)
    watch = ("watch", chance.choice(choice))
    if chance.randrange(7):
        choice = [one for one in choice if meets(hidden, one)]
    item = chance.randrange(items)
    place = hidden.index(item) + 1 if chance.randrange(5) else chance.randrange(1, items + 1)
    report, see = ("report", chance.randrange(6), chance.choice(choice)), ("see", item, place)
    end = [("withdraw", chance.randrange(6)), ("discredit", chance.randrange(6))]
    return chance.choice([report, report, report, see, watch, watch] + end)


@lru_cache(maxsize=None)
def sampled_journals(items, many):
    """So many journals with up to twenty commands that are possible one after another, the same in each run."""
    chance, found = random.Random(100 * items + many), []
    for _ in range(many):
        hidden = tuple(chance.sample(range(items), items))
        journal, entries, watches = [], [], []
        for _ in range(chance.randrange(1, 40)):
            command = any_command(chance, items, hidden)
            if len(journal) < 20 and why_refused(entries, watches, command) is None:
                write_down(entries, watches, command)
                journal.append(command)
        found.append(tuple(journal))
    return found


def evidence_by_others(problem, constraint):
    """Evidence of the verdict that is not the told one, if there is other evidence."""
    word, good = told_verdict(problem, constraint), good_rankings(problem)
    if word == "none":
        return word, contradictions_by_others(problem)[-1]
    if word == "impossible":
        return word, good[-1], contradictions_by_others(plus(problem, constraint))[-1]
    if word == "certain":
        denied = [plus(problem, one) for one in denying(problem[0], constraint)]
        return word, good[-1], tuple(contradictions_by_others(one)[-1] for one in denied)
    met = [ranking for ranking in good if meets(ranking, constraint)]
    return word, met[-1], next(ranking for ranking in good if ranking not in met)


def told_records(items, journal, evidence):
    """The records of the journal, with evidence by the function (points 128 and 129)."""
    records, entries, watches, decided = [], [], [], set()
    for command in journal:
        write_down(entries, watches, command)
        problem = (items, active_constraints(entries))
        waiting = [watch for watch in range(len(watches)) if watch not in decided]
        told = tuple(evidence(problem, watches[watch]) for watch in waiting)
        active = tuple(at for at, entry in enumerate(entries) if entry[2])
        records.append((command, active, told))
        decided |= {watch for watch, value in zip(waiting, told) if value[0] != "open"}
    return tuple(records)


def right_records(items, value):
    """Whether the value is right records for so many items (point 128)."""
    if value.__class__ is not tuple or len(value) > 20:
        return False
    entries, watches, decided = [], [], set()
    for record in value:
        if record.__class__ is not tuple or len(record) != 3 or not right_command(items, record[0]):
            return False
        command, active, told = record
        if why_refused(entries, watches, command) is not None:
            return False
        write_down(entries, watches, command)
        if not same(active, tuple(at for at, entry in enumerate(entries) if entry[2])):
            return False
        waiting = [watch for watch in range(len(watches)) if watch not in decided]
        if told.__class__ is not tuple or len(told) != len(waiting):
            return False
        for watch, evidence in zip(waiting, told):
            if not right_verdict((items, active_constraints(entries)), watches[watch], evidence):
                return False
            if evidence[0] != "open":
                decided.add(watch)
    return True


def right_command(items, value):
    """Whether the value is a command for so many items: one of all that there are (point 123)."""
    if value.__class__ is not tuple or not value or value[0].__class__ is not str:
        return False
    word, parts = value[0], value[1:]
    if word == "report":
        return len(parts) == 2 and is_plain_integer(parts[0], 0, 5) and right_constraint(items, parts[1])
    if word == "see":
        return len(parts) == 2 and is_plain_integer(parts[0], 0, items - 1) and is_plain_integer(parts[1], 1, items)
    if word == "watch":
        return len(parts) == 1 and right_constraint(items, parts[0])
    return word in ("withdraw", "discredit") and len(parts) == 1 and is_plain_integer(
        parts[0], 0, 11 if word == "withdraw" else 5
    )


def right_constraint(items, value):
    """Whether the value is one of all constraints for so many items, of their kinds."""
    return any(same(value, one) for one in every_constraint(items))


# Values that are no command for three items.
NO_COMMANDS_OF_THREE = ODD_VALUES + [
    word for wrong in NO_CONSTRAINTS_OF_THREE + [DEEP_TUPLE, DEEP_LIST, None]
    for word in (("report", 0, wrong), ("watch", wrong))
] + [
    ("report", wrong, ("ahead", 0, 1)) for wrong in (-1, 6, 10 ** 40, True, False, 0.0, "0", None, (0,), [0])
] + [
    ("discredit", wrong) for wrong in (-1, 6, 10 ** 40, True, False, 0.0, "0", None, (0,), [0], DEEP_TUPLE)
] + [
    ("withdraw", wrong) for wrong in (-1, 12, 10 ** 40, True, False, 0.0, "0", None, (0,), [0], DEEP_TUPLE)
] + [
    ("see", 0, wrong) for wrong in (-1, 0, 4, 10 ** 40, True, False, 1.0, "1", None, (1,), [1], DEEP_TUPLE)
] + [
    ("see", wrong, 1) for wrong in (-1, 3, 10 ** 40, True, False, 0.0, "0", None, (0,), [0], DEEP_TUPLE)
] + [
    ["report", 0, ("ahead", 0, 1)], ["see", 0, 1], ["withdraw", 0], ["discredit", 0], ["watch", ("ahead", 0, 1)],
    ("report", 0, ["ahead", 0, 1]), ("watch", ["ahead", 0, 1]), ("report", 0), ("report", ("ahead", 0, 1)),
    ("report", ("ahead", 0, 1), 0), ("report", 0, ("ahead", 0, 1), 0), ("report", 0, "ahead", 0, 1), ("see", 0),
    ("see", 0, 1, 1), ("see",), ("withdraw",), ("withdraw", 0, 0), ("withdraw", ()), ("discredit",),
    ("discredit", 0, 0), ("watch",), ("watch", 0), ("watch", "ahead", 0, 1), ("watch", ("ahead", 0, 1), 0),
    ("Report", 0, ("ahead", 0, 1)), ("seen", 0, 1), ("undo",), ("undo", 0), ("discredits", 0), ("", 0), (None, 0),
    (("withdraw", 0),), (["withdraw"], 0), (b"withdraw", 0), (DEEP_TUPLE, 0), (DEEP_TUPLE, 0, 1), "withdraw",
]
