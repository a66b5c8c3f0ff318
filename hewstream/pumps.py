"""Whether a program keeps a bounded number of events for each depth, and the papers that show it."""

from hewstream.blocking import all_blocking, first_blocking, steps_of
from hewstream.events import is_document, is_tuple
from hewstream.facts import Facts, givers_of
from hewstream.givers import giving_events, giving_row, row_between, row_to_end
from hewstream.machine import Machine
from hewstream.plain import plain_output
from hewstream.validator import validate


def has_pump(facts, state):
    """The first tuple (attributes, edge, lane of the pump, live lane) for the state, or None."""
    kind, blocked, free, _ = state
    for attributes in facts.cases(kind):
        lanes = {mode: facts.lanes(mode, kind, attributes) for mode in blocked + free}
        for edge in facts.round_edges(kind):
            for mode in sorted(lanes):
                found = pump_in_rule(facts, state, lanes, edge, mode)
                if found is not None:
                    return attributes, edge, found[0], found[1]
    return None


def pump_in_rule(facts, state, lanes, edge, mode):
    """The first lane of the rule of the mode that has a pump at the edge, and its live lane, or None.

    Lanes are told as tuples (mode, index); lanes is a dict from the modes to those of their rules.
    """
    kind, blocked, _, pairs = state
    around = None
    if mode not in blocked:
        others = [other for other, own in pairs if own == mode]
        around = first_live(facts, kind, edge[2], [(other, lanes[other]) for other in others])
    for index, (inner, symbols) in enumerate(lanes[mode]):
        if edge[1] not in symbols or not facts.gives_symbol(inner, edge[1]):
            continue
        if mode in blocked:
            return (mode, index), None
        ahead = first_live(facts, kind, edge[2], [(mode, lanes[mode][:index])])
        if ahead is not None or around is not None:
            return (mode, index), around if ahead is None else ahead
    return None


def first_live(facts, kind, state, rules):
    """The first lane of the rules that is live at the state, as a tuple (mode, index), or None."""
    for mode, lanes in rules:
        for index, (inner, symbols) in enumerate(lanes):
            if facts.live(inner, symbols, kind, state):
                return mode, index
    return None


def first_pump(facts, states):
    """The first of the states that has a pump, with the pump; None if there is none."""
    for state in states:
        pump = has_pump(facts, state)
        if pump is not None:
            return state, pump
    return None


def decide(facts):
    """The tuple ("accepted", table) or ("refused", pump paper)."""
    found = all_blocking(facts)
    refused = first_pump(facts, list(found))
    if refused is None:
        return "accepted", tuple(sorted(found))
    state, pump = refused
    return "refused", pump_paper(facts, steps_to(found, state), state, pump)


def steps_to(found, state):
    """The list of the tuples (state before, attributes, edge) by which the state was first met."""
    steps = []
    while found[state] is not None:
        steps.append(found[state])
        state = found[state][0]
    return steps[::-1]


def pump_paper(facts, steps, state, pump):
    """The tuple (u, v, c) for a state that the steps lead to and that has the pump."""
    givers = givers_of(facts)
    attributes, edge, lane, live_lane = pump
    begin, symbol, end = edge
    # The element of the pump, and those around it, with the states of their contents behind u.
    rows = [(before[0], given, step[0], step[2]) for before, given, step in steps]
    rows.append((state[0], attributes, begin, begin))
    opening = []
    for kind, given, at, _ in rows:
        opening.append(("start", facts.grammar.name_of(kind), given))
        opening.extend(row_between(givers, kind, 0, [at]))
    inner = facts.lanes(lane[0], state[0], attributes)[lane[1]][0]
    again = giving_events(givers, inner, symbol) + row_between(givers, state[0], end, [begin])
    level = len(steps)
    if live_lane is None:
        level, live_lane = lane_around(facts, steps, lane[0])
    closing = []
    for number in reversed(range(len(rows))):
        kind, given, _, at = rows[number]
        if number == level:
            mode, symbols = facts.lanes(live_lane[0], kind, given)[live_lane[1]]
            closing.extend(giving_row(givers, kind, at, mode, symbols))
        else:
            closing.extend(row_to_end(givers, kind, at))
        closing.append(("end", facts.grammar.name_of(kind)))
    return opening, again, closing


def lane_around(facts, steps, mode):
    """The live lane before a blocked frame of the mode of the element that the steps lead to.

    It is told as the number of its element, the root being 0, and the tuple (mode, index).
    """
    for number in reversed(range(len(steps))):
        places = blocked_places(facts, steps[number], mode)
        lanes = [lane for _, lane in places if lane is not None]
        if lanes:
            return number, lanes[0]
        mode = places[0][0]
    return None


def blocked_places(facts, step, inner):
    """The list of the places by which a step gives the child blocked frames of the inner mode.

    They are told as tuples (mode of the rule, live lane); the lane is None if it is one further out.
    """
    (kind, blocked, free, pairs), attributes, (_, symbol, behind) = step
    lanes = {mode: facts.lanes(mode, kind, attributes) for mode in blocked + free}
    places = []
    for mode in sorted(lanes):
        for index, (name, symbols) in enumerate(lanes[mode]):
            if name != inner or symbol not in symbols:
                continue
            if mode in blocked:
                places.append((mode, None))
                continue
            rules = [(mode, lanes[mode][:index])] + [(other, lanes[other]) for other, own in pairs if own == mode]
            lane = first_live(facts, kind, behind, rules)
            if lane is not None:
                places.append((mode, lane))
    return places


def judge_table(facts, paper):
    """True if the paper is the table of a program that is accepted; it may be anything."""
    if not isinstance(paper, tuple) or not all([is_state(value) for value in paper]):
        return False
    known = {state: True for state in paper}
    found = {}
    todo = [first_blocking(facts)]
    while todo:
        state = todo.pop()
        if state in found:
            continue
        # States are not looked for beyond the paper, which may be smaller than the table.
        if state not in known or has_pump(facts, state) is not None:
            return False
        found[state] = True
        todo.extend([child for _, _, child in steps_of(facts, state)])
    return paper == tuple(sorted(found))


def is_state(value):
    """True if the value has the form of a blocking state."""
    if not is_tuple(value, 4) or not isinstance(value[0], str) or not is_strings(value[1]) or not is_strings(value[2]):
        return False
    return isinstance(value[3], tuple) and all([is_strings(pair) and len(pair) == 2 for pair in value[3]])


def is_strings(value):
    return isinstance(value, tuple) and all([isinstance(part, str) for part in value])


def judge_pump(grammar, program, paper):
    """True if the paper is a pump paper; it may be anything."""
    if not is_tuple(paper, 3) or not all([isinstance(part, list) for part in paper]):
        return False
    before, again, behind = paper
    for begin in (before, before + again):
        if not is_document(begin + behind) or validate(grammar, begin + behind) != (-1, ""):
            return False
    facts = Facts(grammar, program)
    shape, certain = run_on(facts, before, behind)
    other_shape, other_certain = run_on(facts, before + again, behind)
    return is_row(again) and are_same(shape, other_shape) and other_certain > certain


def run_on(facts, begin, rest):
    """The shape of the machine behind the beginning of a document, and how many events stay behind its rest.

    That is the number K of the document.
    """
    machine = Machine(facts.grammar, facts.program, facts)
    for event in begin:
        machine.event(event)
    shape = machine.shape()
    for event in rest:
        machine.event(event)
    places = [place for _, place in plain_output(facts.grammar, facts.program, begin + rest)]
    later = [index for index, place in enumerate(places) if place >= len(begin)]
    if not later:
        return shape, 0
    return shape, len([place for place in places[later[0]:] if place < len(begin)])


def is_row(events):
    """True if the events, of a valid document, are at least one whole child or sign."""
    nested = 0
    for event in events:
        if event[0] == "start":
            nested += 1
        elif event[0] == "end":
            nested -= 1
        if nested < 0:
            return False
    return len(events) > 0 and nested == 0


def are_same(first, second):
    """True if two shapes are the same; they may be nested deeper than Python compares tuples."""
    todo = [(first, second)]
    while todo:
        one, other = todo.pop()
        if isinstance(one, tuple) and isinstance(other, tuple) and len(one) == len(other):
            todo.extend(list(zip(one, other)))
        elif isinstance(one, tuple) or isinstance(other, tuple) or one != other:
            return False
    return True
