"""What elements put out for their insides, with offsets: the states and outcomes of the search for skipping."""

from hewstream.events import is_output_event, is_tuple
from hewstream.insides import least_inside, rows_of, wide_choices
from hewstream.tokens import is_integer

# The number of the element itself; keys are numbered from 1 on.
WHOLE = 0
# If some row depends on a sign, it does so for two of them.
SIGNS = "ab"


class Due:
    """What is due of the element itself: its rows, and what fits as a part of one of them."""

    def __init__(self, facts, kind, attributes, modes):
        self.facts = facts
        self.rows = rows_of(facts, kind, attributes, modes, least_inside(facts.grammar, kind))
        self.deep = max([offset for row in self.rows for _, offset in row], default=0)
        # What stands in place of the wide cases, which may be very many.
        self.choices = {name: wide_choices(facts, name) for name in facts.grammar.types()}
        self.fitting = {(): True}


class Plan:
    """An element of a key, or the element itself, with its attributes: the settled rules of its modes."""

    def __init__(self, due, number, key, attributes):
        self.number = number
        self.kind, self.offset, self.modes = key
        self.attributes = attributes
        self.rules = [due.facts.parts(mode, self.kind, attributes) for mode in self.modes]
        self.taking = [part for parts in self.rules for part in parts if part[0] == "lane"]


def first_state(due, plan):
    """The state behind the start: that of the automaton, an offset, and the rows of all lanes."""
    return 0, counted(due, plan.offset + 1), tuple([() for _ in plan.taking])


def counted(due, offset):
    """The offset, as it is counted."""
    return min(offset, due.deep + 1)


def all_fit(due, rows):
    """True if each of the rows is a part of a due row."""
    for row in rows:
        if row not in due.fitting:
            due.fitting[row] = any([is_part(row, whole) for whole in due.rows])
    return all([due.fitting[row] for row in rows])


def is_part(row, whole):
    """True if the row, which is not empty, is a contiguous part of the whole one."""
    places = [place for place, entry in enumerate(whole) if entry == row[0]]
    return any([whole[place:place + len(row)] == row for place in places])


def key_of(plan, symbol, offset):
    """The key of a child that begins at the offset."""
    return symbol, offset, tuple(sorted(set([part[1] for part in plan.taking if symbol in part[2]])))


def behind_sign(due, plan, state, behind, sign):
    """The state behind a sign."""
    _, offset, rows = state
    keeps = due.facts.program["modes"]
    found = []
    for part, row in zip(plan.taking, rows):
        found.append(row + ((("char", sign), offset),) if "char" in part[2] and keeps[part[1]] else row)
    return behind, counted(due, offset + 1), tuple(found)


def behind_child(plan, state, behind, key, outcome):
    """The state behind a child of the key with this outcome."""
    symbol, _, modes = key
    end, told = outcome
    known = {mode: row for mode, row in zip(modes, told)}
    found = []
    for part, row in zip(plan.taking, state[2]):
        found.append(row + known[part[1]] if symbol in part[2] else row)
    return behind, end, tuple(found)


def outcome_of(due, plan, state):
    """The outcome of an element that ends in the state."""
    rows = []
    lane = 0
    for parts in plan.rules:
        row = []
        for part in parts:
            if part[0] == "event":
                row.append((part[1], counted(due, plan.offset)))
            else:
                row.extend(state[2][lane])
                lane += 1
        rows.append(tuple(row))
    return counted(due, state[1] + 1), tuple(rows)


def is_right_end(due, plan, outcome):
    """True if the rows of a whole element fit; those of the element itself must be the due ones."""
    return outcome[1] == due.rows if plan.number == WHOLE else all_fit(due, outcome[1])


def is_outcome(due, value, many):
    """True if the value can be an outcome of a key with so many modes."""
    if not is_tuple(value, 2) or not is_offset(due, value[0]) or not is_tuple(value[1], many):
        return False
    return all([isinstance(row, tuple) and all([is_entry(due, entry) for entry in row]) for row in value[1]])


def is_entry(due, value):
    return is_tuple(value, 2) and is_output_event(value[0]) and is_offset(due, value[1])


def is_offset(due, value):
    return is_integer(value) and 0 <= value <= due.deep + 1
