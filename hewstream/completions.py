"""Least elements of types and shortest completions of documents."""

from heapq import heappop, heappush

from hewstream.errors import NotValid, TooMany
from hewstream.schemas import users_of

MOST_EVENTS = 1000


def weights(grammar):
    """A dict from the types to the least numbers of events of their elements."""
    users = users_of(grammar.schema()["types"])
    found = {}
    queue = []
    for kind in grammar.types():
        push_weight(grammar, kind, found, queue)
    # The least of the weights that the found ones allow is right, as each element is heavier
    # than those within it.
    while queue:
        weight, kind = heappop(queue)
        if kind in found:
            continue
        found[kind] = weight
        for user in users[kind]:
            if user not in found:
                push_weight(grammar, user, found, queue)
    return found


def push_weight(grammar, kind, found, queue):
    """Puts the weight of the type in the queue, if the weights found so far allow some row."""
    automaton = grammar.automaton(kind)
    costs = costs_to(automaton, automaton[0], found)
    if 0 in costs:
        heappush(queue, (costs[0] + 2, kind))


def costs_to(automaton, targets, known):
    """A dict from the states to the least weights of rows from them to a target.

    Types without a known weight are passed over; a state without a row is not in the dict.
    """
    costs = {state: 0 for state in targets}
    changed = True
    while changed:
        changed = False
        for state, symbol, behind in automaton[1]:
            weight = weight_of(symbol, known)
            if weight is None or behind not in costs:
                continue
            cost = weight + costs[behind]
            if state not in costs or cost < costs[state]:
                costs[state] = cost
                changed = True
    return costs


def weight_of(symbol, known):
    """The number of events of a symbol, None if it is not known."""
    return 1 if symbol == "char" else known.get(symbol)


def start_event(grammar, kind):
    """The start event of the type with the needed attributes."""
    attributes = [(name, "") for name, needed in grammar.attributes_of(kind) if needed]
    return ("start", grammar.name_of(kind), tuple(attributes))


def least_element(grammar, kind):
    """The list of the events of the least element of the type."""
    return expanded(grammar, weights(grammar), [kind])


def completion(grammar, validator):
    """The list of the events of the shortest completion of what the validator has taken."""
    if validator.fault() != "":
        raise NotValid()
    if validator.is_complete():
        return []
    known = weights(grammar)
    kinds, states = validator.open_types(), validator.states()
    if not kinds:
        return expanded(grammar, known, [grammar.root])
    rows = []
    for kind, state in zip(kinds[::-1], states[::-1]):
        rows.extend(least_row(grammar, known, kind, state))
        rows.append(("end", grammar.name_of(kind)))
    return expanded(grammar, known, rows)


def least_to(grammar, kind, state, targets):
    """The first least row of symbols from the state to one of the targets, or None."""
    return row_to(grammar, weights(grammar), kind, state, targets)


def events_of(grammar, row):
    """The list of the events of a row of children."""
    return expanded(grammar, weights(grammar), list(row))


def least_row(grammar, known, kind, state):
    """The first least row of symbols from the state to where an element of the type can end."""
    return row_to(grammar, known, kind, state, grammar.automaton(kind)[0])


def row_to(grammar, known, kind, state, targets):
    """The first least row of symbols from the state to one of the targets, or None."""
    automaton = grammar.automaton(kind)
    costs = costs_to(automaton, targets, known)
    if state not in costs:
        return None
    row = []
    while costs[state] > 0:
        state, symbol = first_step(grammar, automaton, state, costs, known)
        row.append(symbol)
    return row


def first_step(grammar, automaton, state, costs, known):
    """The next state and the symbol of the first edge by which the least row can go on."""
    steps = []
    for begin, symbol, behind in automaton[1]:
        if begin == state and behind in costs and costs[state] == costs[behind] + weight_of(symbol, known):
            # Names of elements are not empty, so the sign comes first.
            name = "" if symbol == "char" else grammar.name_of(symbol)
            steps.append((name, behind, symbol))
    _, behind, symbol = min(steps)
    return behind, symbol


def expanded(grammar, known, parts):
    """The events of a list of symbols and end events, with a least element for each type."""
    if sum([1 if isinstance(part, tuple) else weight_of(part, known) for part in parts]) > MOST_EVENTS:
        raise TooMany()
    return told_events(grammar, known, parts)


def told_events(grammar, known, parts):
    """The same, however many events they are."""
    events = []
    rows = {}
    todo = parts[::-1]
    while todo:
        part = todo.pop()
        if isinstance(part, tuple):
            events.append(part)
        elif part == "char":
            events.append(("char", "a"))
        else:
            if part not in rows:
                rows[part] = least_row(grammar, known, part, 0)
            events.append(start_event(grammar, part))
            todo.append(("end", grammar.name_of(part)))
            todo.extend(rows[part][::-1])
    return events
