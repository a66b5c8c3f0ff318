"""Checks the events of a document one after the other."""

from hewstream.automata import symbols_at


class Validator:
    """Tells the first event from which no valid document can come."""

    def __init__(self, grammar):
        self.grammar = grammar
        self.kinds = []
        self.at = []
        self.begun = False
        self.found = ""

    def take(self, event):
        """Takes an event; the fault, or "" if there is none."""
        if self.found == "":
            self.found = fault_of(self, event)
            if self.found == "":
                go_on(self, event)
        return self.found

    def expected(self):
        """The list of what may come next."""
        if self.found != "":
            return []
        if not self.kinds:
            return [] if self.begun else [("start", self.grammar.name_of(self.grammar.root))]
        kind, state = self.kinds[-1], self.at[-1]
        rows = []
        if self.grammar.is_final(kind, state):
            rows.append(("end", self.grammar.name_of(kind)))
        if self.grammar.step(kind, state, "char") is not None:
            rows.append(("char",))
        for name in children_at(self.grammar, kind, state):
            rows.append(("start", name))
        return rows

    def open_types(self):
        """The list of the types of the open elements, the outermost first."""
        return list(self.kinds)

    def states(self):
        """The list of the states of the open elements, the outermost first."""
        return list(self.at)

    def is_complete(self):
        """True if the document has ended without a fault."""
        return self.begun and not self.kinds and self.found == ""

    def fault(self):
        """The fault that was found, or ""."""
        return self.found

    def copied(self):
        """A new validator in the same state."""
        other = Validator(self.grammar)
        other.kinds = list(self.kinds)
        other.at = list(self.at)
        other.begun = self.begun
        other.found = self.found
        return other


def inner_validator(grammar, kind):
    """A validator that has come to the beginning of the inside of an element of this type."""
    validator = Validator(grammar)
    validator.kinds = [kind]
    validator.at = [0]
    validator.begun = True
    return validator


def validate(grammar, events):
    """The tuple (index, fault) of the first fault; (-1, "") for a valid document."""
    validator = Validator(grammar)
    for index, event in enumerate(events):
        fault = validator.take(event)
        if fault != "":
            return index, fault
    if not validator.is_complete():
        return len(events), "open"
    return -1, ""


def children_at(grammar, kind, state):
    """The names of the child elements that can come at a state of the type, ascending."""
    symbols = symbols_at(grammar.automaton(kind), state)
    return sorted([grammar.name_of(symbol) for symbol in symbols if symbol != "char"])


def fault_of(validator, event):
    """The fault of the event, or "" if it can come next."""
    if validator.begun and not validator.kinds:
        return "more"
    if not validator.begun:
        return root_fault(validator.grammar, event)
    if event[0] == "start":
        return start_fault(validator, event)
    grammar, kind, state = validator.grammar, validator.kinds[-1], validator.at[-1]
    if event[0] == "char":
        return "char" if grammar.step(kind, state, "char") is None else ""
    if event[1] != grammar.name_of(kind) or not grammar.is_final(kind, state):
        return "end"
    return ""


def root_fault(grammar, event):
    """The fault of the first event."""
    if event[0] != "start" or event[1] != grammar.name_of(grammar.root):
        return "root"
    return attribute_fault(grammar, grammar.root, event[2])


def start_fault(validator, event):
    """The fault of the start of a child."""
    child = child_of(validator, event)
    if child is None or validator.grammar.step(validator.kinds[-1], validator.at[-1], child) is None:
        return "name"
    return attribute_fault(validator.grammar, child, event[2])


def child_of(validator, event):
    """The type of the element that the event starts: the root, or a child of the open element."""
    if not validator.kinds:
        return validator.grammar.root
    return validator.grammar.child_type(validator.kinds[-1], event[1])


def attribute_fault(grammar, kind, attributes):
    """The fault of the attributes of a start event."""
    given = dict(attributes)
    rows = grammar.attributes_of(kind)
    known = [name for name, _ in rows if name in given]
    missing = [name for name, needed in rows if needed and name not in given]
    return "attribute" if len(known) < len(given) or missing else ""


def go_on(validator, event):
    """Takes an event that can come next."""
    if event[0] == "end":
        validator.kinds.pop()
        validator.at.pop()
        return
    symbol = "char" if event[0] == "char" else child_of(validator, event)
    if validator.kinds:
        validator.at[-1] = validator.grammar.step(validator.kinds[-1], validator.at[-1], symbol)
    if event[0] == "start":
        validator.kinds.append(symbol)
        validator.at.append(0)
    validator.begun = True
