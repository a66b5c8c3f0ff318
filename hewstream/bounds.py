"""The greatest numbers of events that are kept in documents of small depths."""

from hewstream.automata import symbols_at
from hewstream.blocking import all_blocking
from hewstream.pumps import first_pump
from hewstream.rows import BEGIN, END, fresh_row, kept_in, lane_word, row_behind, without_left


def least_depths(facts):
    """A dict from the types to the least depths of valid elements of them."""
    grammar = facts.grammar
    found = {}
    depth = 0
    while len(found) < len(grammar.types()):
        depth += 1
        known = dict(found)
        for kind in grammar.types():
            if kind not in found and 0 in ending_states(grammar, kind, known):
                found[kind] = depth
    return found


def ending_states(grammar, kind, known):
    """A dict with the states from which the content of the type can end with signs and the known types."""
    finals, edges = grammar.automaton(kind)
    found = {state: True for state in finals}
    many = 0
    while many < len(found):
        many = len(found)
        for begin, symbol, end in edges:
            if end in found and (symbol == "char" or symbol in known):
                found[begin] = True
    return found


def bound(facts, depth):
    """The tuple (number, events) of the bound and the first beginning that reaches it, or None."""
    if first_pump(facts, list(all_blocking(facts))) is not None:
        return None
    search = Search(facts, depth)
    begin_search(search)
    at = 0
    while at < len(search.found):
        around, row = search.found[at]
        # Without live lanes nothing is kept any more.
        if row:
            go_on_from(search, at, around, row)
        at += 1
    return search.best, events_to(search)


class Search:
    """The configurations that documents of at most this depth lead to, in the order in which they are met.

    A configuration is a tuple (around, row): the types and states of the open elements, and what stands
    of the output.
    """

    def __init__(self, facts, depth):
        self.facts = facts
        self.most = depth
        self.least = least_depths(facts)
        self.starts = {kind: different_starts(facts, kind) for kind in facts.grammar.types()}
        self.endings = {}
        self.words = lanes_of(facts)
        self.moves = {}
        self.found = []
        self.known = {}
        # For each one the number of the one before it, and the event between.
        self.steps = []
        self.best = 0
        self.best_at = 0


def different_starts(facts, kind):
    """The list of the tuples (attributes, rows) of the cases; of several with the same rows the first one.

    Rows has for each mode the row of a frame that has just begun.
    """
    found = {}
    modes = sorted(facts.program["modes"])
    for attributes in facts.cases(kind):
        found.setdefault(tuple([fresh_row(facts, mode, kind, attributes) for mode in modes]), attributes)
    return [(attributes, {mode: row for mode, row in zip(modes, rows)}) for rows, attributes in found.items()]


def lanes_of(facts):
    """A dict from the strings for lanes to all lanes (mode, symbols) of the program."""
    found = {}
    for mode, kind in facts.program["rules"]:
        for attributes in facts.cases(kind):
            for inner, symbols in facts.lanes(mode, kind, attributes):
                found[lane_word(inner, symbols)] = (inner, symbols)
    return found


def can_come(search, level, symbol):
    """True if a child with the symbol can stand in an element at the level."""
    return symbol == "char" or search.least[symbol] <= search.most - level


def can_go_on(search, level, kind, state):
    """True if the content of an element at the level can end behind the state."""
    if (kind, level) not in search.endings:
        types = search.facts.grammar.types()
        known = {symbol: True for symbol in types if can_come(search, level, symbol)}
        search.endings[kind, level] = ending_states(search.facts.grammar, kind, known)
    return state in search.endings[kind, level]


def meet(search, before, event, around, row):
    """A configuration is met behind the event."""
    if (around, row) in search.known:
        return
    search.known[around, row] = True
    if kept_in(row) > search.best:
        search.best = kept_in(row)
        search.best_at = len(search.found)
    search.found.append((around, row))
    search.steps.append((before, event))


def begin_search(search):
    """The starts of the root."""
    grammar = search.facts.grammar
    if not can_come(search, 0, grammar.root):
        return
    for attributes, rows in search.starts[grammar.root]:
        row = without_left(rows[search.facts.program["start"]])
        meet(search, -1, ("start", grammar.name_of(grammar.root), attributes), ((grammar.root, 0),), row)


def go_on_from(search, at, around, row):
    """All events that can come behind a configuration, in their order."""
    kind, state = around[-1]
    level = len(around)
    if (level, kind, state) not in search.moves:
        search.moves[level, kind, state] = moves_from(search, level, kind, state)
    for event, behind, coming, alive in search.moves[level, kind, state]:
        meet(search, at, event, around[:-1] + behind, row_behind(row, level, coming, alive))


def moves_from(search, level, kind, state):
    """The list of what can come in an element of the type at the level, as tuples (event, behind, coming, alive).

    Behind has the types and states of this element and a child, coming and alive are as in row_behind.
    """
    grammar = search.facts.grammar
    moves = []
    if grammar.is_final(kind, state):
        moves.append((("end", grammar.name_of(kind)), (), {}, {}))
    symbols = symbols_at(grammar.automaton(kind), state)
    for symbol in [found for found in symbols if found == "char"] + [found for found in symbols if found != "char"]:
        behind = grammar.step(kind, state, symbol)
        if not can_come(search, level, symbol) or not can_go_on(search, level, kind, behind):
            continue
        alive = live_lanes(search, kind, behind)
        taking = taking_lanes(search, symbol)
        if symbol == "char":
            moves.append((("char", "a"), ((kind, behind),), {word: (1,) for word in taking}, alive))
            continue
        for attributes, rows in search.starts[symbol]:
            event = ("start", grammar.name_of(symbol), attributes)
            coming = {word: (BEGIN, *rows[mode], END) for word, mode in taking.items()}
            moves.append((event, ((kind, behind), (symbol, 0)), coming, alive))
    return moves


def taking_lanes(search, symbol):
    """A dict from the strings for the lanes that take something of the symbol to their modes."""
    found = {}
    for word, (mode, symbols) in search.words.items():
        if symbol in symbols and search.facts.gives_symbol(mode, symbol):
            found[word] = mode
    return found


def live_lanes(search, kind, state):
    """A dict with the strings for the lanes that are live in an element of the type at the state."""
    return {word: True for word, lane in search.words.items() if search.facts.live(lane[0], lane[1], kind, state)}


def events_to(search):
    """The events by which the best configuration was first met."""
    events = []
    at = search.best_at if search.found else -1
    while at >= 0:
        at, event = search.steps[at]
        events.append(event)
    return events[::-1]
