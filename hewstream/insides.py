"""The insides of elements: the events between their start and their end, and what modes put out for them."""

from hewstream.completions import expanded, least_row, weights
from hewstream.events import are_events
from hewstream.facts import strings_that_matter
from hewstream.plain import is_use, nodes_in, numbered, pieces_of
from hewstream.programs import body_of, items_within, settled
from hewstream.validator import inner_validator


def least_inside(grammar, kind):
    """The list of the events of the least element of the type without its start and its end."""
    known = weights(grammar)
    return expanded(grammar, known, least_row(grammar, known, kind, 0))


def rows_of(facts, kind, attributes, modes, inside):
    """The tuple of the rows of the modes for an element with these attributes and this inside."""
    start = ("start", facts.grammar.name_of(kind), attributes)
    nodes = nodes_in(facts.grammar, numbered([start] + inside), kind)
    uses = uses_by(facts.program, nodes, modes)
    rows = {}
    # Children are numbered behind the elements around them.
    for number, mode in list(uses)[::-1]:
        row = []
        for piece in uses[number, mode]:
            if is_use(piece):
                row.extend(rows[piece])
            else:
                row.append(piece)
        rows[number, mode] = tuple(row)
    return tuple([rows[0, mode] for mode in modes])


def uses_by(program, nodes, modes):
    """A dict from the uses of elements by these modes of the first one, in order, to their pieces."""
    uses = {}
    due = {(0, mode): True for mode in modes}
    for number, node in nodes.items():
        for mode in program["modes"]:
            if (number, mode) not in due:
                continue
            parts = settled(body_of(program, mode, node.kind), node.attributes)
            uses[number, mode] = pieces_of(program, parts, number, node)
            for piece in uses[number, mode]:
                if is_use(piece):
                    due[piece] = True
    return uses


def is_valid_inside(grammar, kind, events):
    """True if the list of input events is a valid inside of the type."""
    validator = inner_validator(grammar, kind)
    for event in events:
        if validator.take(event) != "":
            return False
    return validator.take(("end", grammar.name_of(kind))) == "" and validator.is_complete()


def is_inside(grammar, kind, value):
    """True if the value is a list of events that is a valid inside of the type; it may be anything."""
    if not isinstance(value, list) or not are_events(value):
        return False
    return is_valid_inside(grammar, kind, value)


def strings_named(program, kind):
    """A dict from the attributes that stand anywhere in a rule for the type to the strings compared with them."""
    found = strings_that_matter(program, kind)
    for mode, ruled in program["rules"]:
        if ruled == kind:
            for item in items_within(body_of(program, mode, kind)):
                for name in names_in_make(item):
                    found.setdefault(name, [])
    return found


def names_in_make(item):
    """The list of the attributes whose values stand in the attributes of a make."""
    rows = item[2] if item[0] == "make" else ()
    return [part[1] for _, parts in rows for part in parts if part[0] == "value"]


def other_strings(strings, many):
    """The first so many of "a", "aa", "aaa" and so on that are not among the strings."""
    found = []
    other = "a"
    while len(found) < many:
        if other not in strings:
            found.append(other)
        other += "a"
    return found


def wide_choices(facts, kind):
    """The list of the tuples (name, choices) of the attributes of the type; None stands for absent."""
    strings = strings_named(facts.program, kind)
    rows = []
    for name, needed in facts.grammar.attributes_of(kind):
        choices = [] if needed else [None]
        if name in strings:
            known = strings[name] + ([] if "" in strings[name] else [""])
            choices = choices + known + other_strings(known, 2)
        elif needed:
            choices = [""]
        rows.append((name, choices))
    return rows


def case_at(rows, number):
    """The case with this number, of the attributes with these choices, or None if there are not so many."""
    case = []
    for name, choices in rows[::-1]:
        value = choices[number % len(choices)]
        number = number // len(choices)
        if value is not None:
            case.append((name, value))
    return None if number > 0 else tuple(case[::-1])


def wide_cases(facts, kind):
    """The list of the cases of the type in which strings and signs differ as far as rows can depend on them."""
    rows = wide_choices(facts, kind)
    cases = []
    case = case_at(rows, 0)
    while case is not None:
        cases.append(case)
        case = case_at(rows, len(cases))
    return cases
