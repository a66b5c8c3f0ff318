"""What holds of a program on a schema: the cases of attributes, and what can come and give something."""

from hewstream.automata import inner_edges, reached_from, states_of
from hewstream.errors import TooMany
from hewstream.givers import Givers, giving_events
from hewstream.programs import body_of, items_within, settled, values_named

MOST_CASES = 100


class Facts:
    """The facts of a program that fits the schema of the grammar."""

    def __init__(self, grammar, program):
        self.grammar = grammar
        self.program = program
        self.case_rows = {kind: cases_of(grammar, program, kind) for kind in grammar.types()}
        self.bodies = {}
        self.rounds = {}
        self.coming = {}
        for kind, cases in self.case_rows.items():
            for mode in program["modes"]:
                for attributes in cases:
                    self.bodies[mode, kind, attributes] = settled(body_of(program, mode, kind), attributes)
            automaton = grammar.automaton(kind)
            self.rounds[kind] = inner_edges(automaton)
            for state in range(states_of(automaton)):
                self.coming[kind, state] = symbols_behind(automaton, state)
        self.giving = giving_symbols(self)
        # Ways to elements that give something are looked for when they are asked for.
        self.givers = None

    def cases(self, kind):
        """The list of the cases of a type."""
        return list(self.case_rows[kind])

    def parts(self, mode, kind, attributes):
        """The settled parts of the rule, () if there is none."""
        known = self.bodies.get((mode, kind, attributes))
        return settled(body_of(self.program, mode, kind), attributes) if known is None else known

    def lanes(self, mode, kind, attributes):
        """The list of the tuples (mode, symbols) of the lanes of the rule, in order."""
        return [part[1:] for part in self.parts(mode, kind, attributes) if part[0] == "lane"]

    def gives(self, mode, kind):
        """True if some valid element of the type gives an event by the rule of the mode."""
        return (mode, kind) in self.giving

    def gives_symbol(self, mode, symbol):
        """The same for a type or a sign."""
        return (mode, symbol) in self.giving

    def live(self, mode, symbols, kind, state):
        """True if something can still come into the lane of an element whose content is in the state."""
        coming = self.coming[kind, state]
        return any([symbol in coming and (mode, symbol) in self.giving for symbol in symbols])

    def round_edges(self, kind):
        """The list of the edges of the type's automaton whose states lead to each other."""
        return list(self.rounds[kind])

    def giving_element(self, mode, kind):
        """The events of a valid element of the type that gives an event in the mode, or None."""
        if not self.gives(mode, kind):
            return None
        return giving_events(givers_of(self), mode, kind)


def givers_of(facts):
    """The ways to elements that give something, found once."""
    if facts.givers is None:
        facts.givers = Givers(facts)
    return facts.givers


def cases_of(grammar, program, kind):
    """The list of the cases of a type, those of the first attribute changing slowest."""
    strings = strings_that_matter(program, kind)
    rows = [(name, choices_of(needed, strings.get(name))) for name, needed in grammar.attributes_of(kind)]
    many = 1
    for _, choices in rows:
        many *= len(choices)
        if many > MOST_CASES:
            raise TooMany()
    cases = [()]
    for name, choices in rows:
        cases = [case + with_value(name, value) for case in cases for value in choices]
    return cases


def with_value(name, value):
    """The attribute with the value, in a tuple; an empty one if it is absent."""
    return () if value is None else ((name, value),)


def strings_that_matter(program, kind):
    """A dict from the attributes that matter for the type to the strings that ifs compare with them."""
    found = {}
    for mode, ruled in program["rules"]:
        if ruled != kind:
            continue
        body = body_of(program, mode, kind)
        for name, strings in values_named(body).items():
            found[name] = found.get(name, []) + strings
        for item in items_within(body):
            if item[0] == "value":
                found.setdefault(item[1], [])
    return {name: sorted(set(strings)) for name, strings in found.items()}


def choices_of(needed, strings):
    """The list of the choices of an attribute, None for absent; strings is None if it does not matter."""
    absent = [] if needed else [None]
    if strings is None:
        return absent if absent else [""]
    empty = [] if "" in strings else [""]
    other = "a"
    while other in strings:
        other += "a"
    return absent + strings + empty + [other]


def symbols_behind(automaton, state):
    """A dict with the symbols of all edges that ways from the state lead to."""
    states = reached_from(automaton, state)
    return {symbol: True for begin, symbol, _ in automaton[1] if begin in states}


def giving_symbols(facts):
    """A dict with all tuples (mode, symbol) for which what the symbol stands for can give something."""
    todo = [(mode, "char") for mode, keeps in facts.program["modes"].items() if keeps]
    users = {}
    for (mode, kind, _), parts in facts.bodies.items():
        for part in parts:
            if part[0] == "event":
                todo.append((mode, kind))
                continue
            for symbol in part[2]:
                if symbol in facts.coming[kind, 0]:
                    users.setdefault((part[1], symbol), []).append((mode, kind))
    found = {}
    while todo:
        pair = todo.pop()
        if pair not in found:
            found[pair] = True
            todo.extend(users.get(pair, []))
    return found
