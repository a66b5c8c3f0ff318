"""Whether two programs that use each child once have the same outputs."""

from hewstream.automata import reached_from
from hewstream.completions import costs_to
from hewstream.errors import NotValid, TooMany
from hewstream.events import ascends, is_document, is_tuple
from hewstream.facts import MOST_CASES, givers_of, with_value
from hewstream.givers import row_between, row_to_end
from hewstream.insides import strings_named
from hewstream.plain import plain_output
from hewstream.validator import validate


def uses_once(facts):
    """True if no settled rule has a symbol in two lanes."""
    modes = facts.program["modes"]
    return all([has_once(facts.lanes(mode, kind, attributes)) for kind in facts.grammar.types()
                for attributes in facts.cases(kind) for mode in modes])


def has_once(lanes):
    symbols = [symbol for _, row in lanes for symbol in row]
    return len(set(symbols)) == len(symbols)


def compare(facts, other):
    """("alike", meetings) or ("differ", document)."""
    check_uses(facts, other)
    pair = Pair(facts, other)
    first = root_meeting(facts, other)
    # By each meeting the one before it, with the case and the symbol that lead to it.
    found = {first: None}
    todo = [first]
    while todo:
        meeting = todo.pop(0)
        for attributes in cases_of(pair, meeting[0]):
            difference, behind = look_at(pair, meeting, attributes)
            if difference is not None:
                return "differ", document_to(pair, found, meeting, attributes, difference)
            for inner in behind:
                if inner not in found:
                    found[inner] = (meeting, attributes)
                    todo.append(inner)
    return "alike", tuple(sorted(found))


def check_uses(facts, other):
    if not uses_once(facts) or not uses_once(other):
        raise NotValid()


def root_meeting(facts, other):
    return facts.grammar.root, facts.program["start"], other.program["start"]


class Pair:
    """Two programs, and what has been found out of types for both."""

    def __init__(self, facts, other):
        self.facts = facts
        self.other = other
        self.cases_known = {}
        self.orders = {}


def cases_of(pair, kind):
    """The list of the cases in which the rules of both programs for the type are compared.

    The last choice of an attribute stands for all other strings: a string that no text begins like,
    as tabs and newlines stand in none, and from which it can be read of which attribute it is. So
    events with such strings are equal exactly if their forms are.
    """
    if kind in pair.cases_known:
        return pair.cases_known[kind]
    cases = [()]
    strings = [strings_named(facts.program, kind) for facts in (pair.facts, pair.other)]
    for number, (name, needed) in enumerate(pair.facts.grammar.attributes_of(kind)):
        found = [rows[name] for rows in strings if name in rows]
        choices = [] if needed else [None]
        if found:
            compared = sorted(set([string for row in found for string in row]))
            choices = choices + compared + ([] if "" in compared else [""]) + ["\t" * (number + 1) + "\n"]
        elif needed:
            choices = [""]
        if len(cases) * len(choices) > MOST_CASES:
            raise TooMany()
        cases = [case + with_value(name, value) for case in cases for value in choices]
    pair.cases_known[kind] = cases
    return cases


class Settled:
    """A settled rule of a mode: its own events, and where its lanes stand."""

    def __init__(self, facts, mode, kind, attributes):
        self.facts = facts
        self.own = []
        # By the symbols the tuples (number of own events ahead, number of the lane, mode of the lane).
        self.lanes = {}
        for at, part in enumerate(facts.parts(mode, kind, attributes)):
            if part[0] == "event":
                self.own.append(part[1])
            else:
                for symbol in part[2]:
                    self.lanes[symbol] = (len(self.own), at, part[1])

    def gives(self, symbol):
        """True if a child with the symbol can give something."""
        return symbol in self.lanes and self.facts.gives_symbol(self.lanes[symbol][2], symbol)


def look_at(pair, meeting, attributes):
    """What shows that a meeting is not right in a case, None if it is right, and the meetings that come about.

    What shows it is a tuple of the tuples (symbol, mode, True if the mode is one of the first program)
    of children that must come in this order, each of which gives something; an empty one if there are
    none.
    """
    kind, mode, other_mode = meeting
    first = Settled(pair.facts, mode, kind, attributes)
    second = Settled(pair.other, other_mode, kind, attributes)
    if first.own != second.own:
        return (), []
    symbols = sorted(set([symbol for _, symbol, _ in pair.facts.grammar.automaton(kind)[1]]))
    behind = []
    for symbol in symbols:
        if stand_alike(first, second, symbol):
            if symbol != "char":
                behind.append((symbol, first.lanes[symbol][2], second.lanes[symbol][2]))
        elif first.gives(symbol):
            return ((symbol, first.lanes[symbol][2], True),), []
        elif second.gives(symbol):
            return ((symbol, second.lanes[symbol][2], False),), []
    for symbol in symbols:
        for later in symbols:
            if symbol != later and is_order_wrong(pair, kind, first, second, symbol, later):
                rows = [(name, first.lanes[name][2], True) for name in (symbol, later)]
                return tuple(rows), []
    return None, behind


def stand_alike(first, second, symbol):
    """True if both rules have a lane for the symbol at the same place among their own events.

    For a sign both lanes must take it, or neither.
    """
    if symbol not in first.lanes or symbol not in second.lanes:
        return False
    if first.lanes[symbol][0] != second.lanes[symbol][0]:
        return False
    return symbol != "char" or first.gives(symbol) == second.gives(symbol)


def is_order_wrong(pair, kind, first, second, symbol, later):
    """True if children of the first symbol, and then of the second one, are written in another order by one rule."""
    if not first.gives(symbol) or not first.gives(later) or not can_follow(pair, kind, symbol, later):
        return False
    if first.lanes[symbol][0] != first.lanes[later][0]:
        return False
    return stands_before(first, symbol, later) != stands_before(second, symbol, later)


def stands_before(rule, symbol, later):
    """True if the lane of the first symbol stands before that of the second one, or is the same one."""
    return rule.lanes[symbol][1] <= rule.lanes[later][1]


def can_follow(pair, kind, symbol, later):
    """True if in some row of the content a child of the second symbol comes behind one of the first."""
    if (kind, symbol, later) not in pair.orders:
        automaton = pair.facts.grammar.automaton(kind)
        pair.orders[kind, symbol, later] = any([row_edges(automaton, (edge,), later) for edge in automaton[1]
                                                if edge[1] == symbol])
    return pair.orders[kind, symbol, later]


def row_edges(automaton, edges, symbol):
    """The list of the rows of edges that go on from the last one of these by an edge of the symbol, in time."""
    states = reached_from(automaton, edges[-1][2] if edges else 0)
    return [edges + (edge,) for edge in automaton[1] if edge[1] == symbol and edge[0] in states]


def document_to(pair, found, meeting, attributes, difference):
    """The events of a document that leads to an element of the meeting with such children."""
    givers = givers_of(pair.facts)
    children = [(symbol, giving_child(pair, symbol, mode, is_first)) for symbol, mode, is_first in difference]
    events = element_with(givers, meeting[0], attributes, children)
    while found[meeting] is not None:
        symbol = meeting[0]
        meeting, attributes = found[meeting]
        events = element_with(givers, meeting[0], attributes, [(symbol, events)])
    return events


def giving_child(pair, symbol, mode, is_first):
    """The events of a child that gives something in the mode of one of the programs."""
    if symbol == "char":
        return [("char", "a")]
    return (pair.facts if is_first else pair.other).giving_element(mode, symbol)


def element_with(givers, kind, attributes, children):
    """The events of an element with these children, tuples (symbol, events), and as few others as can be."""
    grammar = givers.grammar
    name = grammar.name_of(kind)
    automaton = grammar.automaton(kind)
    rows = [()]
    for symbol, _ in children:
        rows = [longer for row in rows for longer in row_edges(automaton, row, symbol)]
    best = min([(cost_of(givers, automaton, row), row) for row in rows])[1]
    events = [("start", name, attributes)]
    state = 0
    for (begin, _, end), (_, inner) in zip(best, children):
        events.extend(row_between(givers, kind, state, [begin]))
        events.extend(inner)
        state = end
    return events + row_to_end(givers, kind, state) + [("end", name)]


def cost_of(givers, automaton, edges):
    """The least number of events of the other children in a row that goes by these edges."""
    cost = 0
    state = 0
    for begin, _, end in edges:
        cost += costs_to(automaton, [begin], givers.known)[state]
        state = end
    return cost + costs_to(automaton, automaton[0], givers.known)[state]


def judge_meetings(facts, other, value):
    """True if the value is a table of meetings that are all right; it may be anything."""
    check_uses(facts, other)
    if not isinstance(value, tuple) or not all([is_meeting(facts, other, meeting) for meeting in value]):
        return False
    if not ascends(value) or root_meeting(facts, other) not in value:
        return False
    pair = Pair(facts, other)
    for meeting in value:
        for attributes in cases_of(pair, meeting[0]):
            difference, behind = look_at(pair, meeting, attributes)
            if difference is not None or not all([inner in value for inner in behind]):
                return False
    return True


def is_meeting(facts, other, value):
    """True if the value has the form of a meeting."""
    if not is_tuple(value, 3) or not all([isinstance(part, str) for part in value]):
        return False
    kind, mode, other_mode = value
    known = facts.grammar.types()
    return kind in known and mode in facts.program["modes"] and other_mode in other.program["modes"]


def judge_difference(facts, other, document):
    """True if the value is a valid document on which the plain outputs differ; it may be anything."""
    if not is_document(document) or validate(facts.grammar, document) != (-1, ""):
        return False
    rows = [plain_output(facts.grammar, each.program, document) for each in (facts, other)]
    return rows[0] != rows[1]
