"""Blocking states: which frames of an element stand behind live lanes of the elements around it."""

from hewstream.errors import TooMany

MOST_BLOCKING = 3000


def first_blocking(facts):
    """The state of the root."""
    return facts.grammar.root, (), (facts.program["start"],), ()


def after_edge(facts, state, attributes, edge):
    """The state of the child that comes by the edge, or None."""
    kind, blocked, free, pairs = state
    _, symbol, behind = edge
    if symbol == "char":
        return None
    rules = {mode: Rule(facts, mode, kind, attributes, symbol, behind) for mode in blocked + free}
    barred = [lane for mode in blocked for lane in rules[mode].taking]
    clear = []
    child_pairs = []
    for mode in free:
        rule = rules[mode]
        ahead = [rules[other] for other, own in pairs if own == mode]
        many = 0 if any([other.is_live for other in ahead]) else rule.many_clear
        barred.extend(rule.taking[many:])
        clear.extend(rule.taking[:many])
        for index, lane in enumerate(rule.taking[:many]):
            before = rule.taking[:index] + [found for other in ahead for found in other.taking]
            child_pairs.extend([(found, lane) for found in before])
    if not barred and not clear:
        return None
    child_blocked = sorted(set(barred))
    child_free = [mode for mode in sorted(set(clear)) if mode not in child_blocked]
    child_pairs = [pair for pair in sorted(set(child_pairs)) if pair[1] in child_free]
    return symbol, tuple(child_blocked), tuple(child_free), tuple(child_pairs)


class Rule:
    """How the lanes of a settled rule take a symbol, and which of them are live behind it."""

    def __init__(self, facts, mode, kind, attributes, symbol, behind):
        # The modes of the lanes that take the symbol, in order.
        self.taking = []
        # How many of them have no live lane of the rule before them.
        self.many_clear = 0
        self.is_live = False
        for inner, symbols in facts.lanes(mode, kind, attributes):
            if symbol in symbols:
                self.taking.append(inner)
                self.many_clear += 0 if self.is_live else 1
            if not self.is_live:
                self.is_live = facts.live(inner, symbols, kind, behind)


def steps_of(facts, state):
    """The list of the tuples (attributes, edge, child's state), by the cases and the edges."""
    steps = []
    edges = facts.grammar.automaton(state[0])[1]
    for attributes in facts.cases(state[0]):
        for edge in edges:
            child = after_edge(facts, state, attributes, edge)
            if child is not None:
                steps.append((attributes, edge, child))
    return steps


def all_blocking(facts):
    """A dict from all states that steps lead to, to None or (state before, attributes, edge)."""
    first = first_blocking(facts)
    found = {first: None}
    todo = [first]
    at = 0
    while at < len(todo):
        state = todo[at]
        at += 1
        for attributes, edge, child in steps_of(facts, state):
            if child not in found:
                found[child] = (state, attributes, edge)
                todo.append(child)
        if len(found) > MOST_BLOCKING:
            raise TooMany()
    return found
