"""Whether an element can be passed over: whether each of its modes puts out the same row for all its insides."""

from heapq import heappop, heappush

from hewstream.completions import least_row, told_events, weights
from hewstream.events import ascends, is_tuple
from hewstream.insides import case_at, is_inside, least_inside, rows_of
from hewstream.outcomes import SIGNS, WHOLE, Due, Plan, all_fit, behind_child, behind_sign, first_state, is_offset
from hewstream.outcomes import is_outcome, is_right_end, key_of, outcome_of

MOST_STATES = 3000


class Search:
    """Looks through all states, those of few events first.

    An item is a tuple (number of the plan, state), or a tuple (number of the key, outcome).
    """

    def __init__(self, due):
        self.due = due
        self.plans = []
        self.queue = []
        self.pushed = 0
        # The least numbers of events, by items; the number of the states among them.
        self.costs = {}
        self.many = 0
        # A state by (item before, step), None for the first one; an outcome by its last item. A step is a
        # sign, or a tuple (number of the key, outcome).
        self.ways = {}
        # The numbers of the keys. For each number the item and next state by which it was met first, its
        # outcomes, and the items and next states that its elements can come behind.
        self.numbers = {}
        self.origins = {}
        self.found = {}
        self.waiting = {}
        # The events of an inside with other rows than the due ones.
        self.witness = None


def decide_skip(facts, kind, attributes, modes):
    """("same", table), ("differ", inside) or ("many", ())."""
    search = Search(Due(facts, kind, attributes, modes))
    add_plan(search, Plan(search.due, WHOLE, (kind, 0, modes), attributes))
    while search.queue and not is_ended(search):
        _, _, item = heappop(search.queue)
        if is_outcome_item(item):
            take_outcome(search, item)
        else:
            take_state(search, item)
    if search.witness is not None:
        return "differ", search.witness
    if search.many > MOST_STATES:
        return "many", ()
    return "same", {key: in_order(search.found[number]) for key, number in search.numbers.items()}


def is_outcome_item(item):
    return is_tuple(item[1], 2)


def is_ended(search):
    return search.witness is not None or search.many > MOST_STATES


def in_order(outcomes):
    """The tuple of the outcomes, ascending by their texts."""
    return tuple(sorted(outcomes, key=text_of))


def text_of(outcome):
    return repr(outcome)


def push(search, cost, item, way):
    """Puts an item into the queue, if it is new."""
    if item in search.costs:
        return
    search.costs[item] = cost
    search.ways[item] = way
    if not is_outcome_item(item):
        search.many += 1
    search.pushed += 1
    heappush(search.queue, (cost, search.pushed, item))


def add_plan(search, plan):
    """Begins with the elements of a plan."""
    search.plans.append(plan)
    push(search, 1, (len(search.plans) - 1, first_state(search.due, plan)), None)


def take_state(search, item):
    """Goes on from a state by its end, by signs, and by children whose outcomes are known."""
    number, state = item
    plan = search.plans[number]
    grammar = search.due.facts.grammar
    if grammar.is_final(plan.kind, state[0]):
        outcome = outcome_of(search.due, plan, state)
        if not is_right_end(search.due, plan, outcome):
            search.witness = inside_with(search, item, [], state[0])
        elif plan.number != WHOLE:
            push(search, search.costs[item] + 1, (plan.number, outcome), item)
    for begin, symbol, behind in grammar.automaton(plan.kind)[1]:
        if begin != state[0] or is_ended(search):
            continue
        if symbol == "char":
            for sign in SIGNS:
                push_state(search, item, behind_sign(search.due, plan, state, behind, sign), sign)
        else:
            add_child(search, item, key_of(plan, symbol, state[1]), behind)


def push_state(search, item, state, step):
    """Puts the state behind a step into the queue; a state whose rows do not fit ends the search."""
    if is_ended(search):
        return
    if not all_fit(search.due, state[2]):
        search.witness = inside_with(search, item, [step], state[0])
        return
    cost = 1 if isinstance(step, str) else search.costs[step]
    push(search, search.costs[item] + cost, (item[0], state), (item, step))


def add_child(search, item, key, behind):
    """Goes on from a state by the children of a key, which may be a new one."""
    if key not in search.numbers:
        number = len(search.numbers) + 1
        search.numbers[key] = number
        search.origins[number] = (item, behind)
        search.found[number] = []
        search.waiting[number] = []
        at = 0
        case = case_at(search.due.choices[key[0]], at)
        while case is not None and not is_ended(search):
            add_plan(search, Plan(search.due, number, key, case))
            at += 1
            case = case_at(search.due.choices[key[0]], at)
    number = search.numbers[key]
    search.waiting[number].append((item, behind, key))
    for outcome in search.found[number]:
        push_child(search, item, behind, key, (number, outcome))


def push_child(search, item, behind, key, step):
    state = behind_child(search.plans[item[0]], item[1], behind, key, step[1])
    push_state(search, item, state, step)


def take_outcome(search, step):
    """Goes on by a child with this outcome from the states that are known."""
    number, outcome = step
    search.found[number].append(outcome)
    for item, behind, key in search.waiting[number]:
        push_child(search, item, behind, key, step)


def inside_with(search, item, steps, behind):
    """The events of an inside in which the steps come behind the item; they lead to this state of the automaton."""
    grammar = search.due.facts.grammar
    known = weights(grammar)
    plan = search.plans[item[0]]
    events = events_to(search, item, steps) + ending(grammar, known, plan.kind, behind)
    while plan.number != WHOLE:
        start, end = tags_of(search, plan)
        item, behind = search.origins[plan.number]
        plan = search.plans[item[0]]
        events = events_to(search, item, []) + [start] + events + [end]
        events = events + ending(grammar, known, plan.kind, behind)
    return events


def ending(grammar, known, kind, state):
    """The events of the least row of children from the state to an end of the content, however many."""
    return told_events(grammar, known, least_row(grammar, known, kind, state))


def tags_of(search, plan):
    """The start and the end event of an element of the plan."""
    name = search.due.facts.grammar.name_of(plan.kind)
    return ("start", name, plan.attributes), ("end", name)


def events_to(search, item, steps):
    """The events of the children on the way to the item and of the steps behind it."""
    events = []
    todo = (steps_to(search, item) + steps)[::-1]
    while todo:
        step = todo.pop()
        if isinstance(step, str):
            events.append(("char", step))
        elif isinstance(step[0], str):
            events.append(step)
        else:
            last = search.ways[step]
            start, end = tags_of(search, search.plans[last[0]])
            events.append(start)
            todo.append(end)
            todo.extend(steps_to(search, last)[::-1])
    return events


def steps_to(search, item):
    """The list of the steps on the way to a state."""
    steps = []
    while search.ways[item] is not None:
        item, step = search.ways[item]
        steps.append(step)
    return steps[::-1]


def judge_same(facts, kind, attributes, modes, table):
    """True if the value is a closed table that can be looked through; it may be anything."""
    due = Due(facts, kind, attributes, modes)
    if not is_table(due, table):
        return False
    look = Look(due, table)
    look_through(look, Plan(due, WHOLE, (kind, 0, modes), attributes), ())
    for number, (key, outcomes) in enumerate(table.items()):
        at = 0
        case = case_at(due.choices[key[0]], at)
        while case is not None and look.goes_on:
            look_through(look, Plan(due, number + 1, key, case), outcomes)
            at += 1
            case = case_at(due.choices[key[0]], at)
    return look.goes_on


def is_table(due, value):
    """True if the value has the form of a table."""
    if not isinstance(value, dict) or not all([is_key(due, key) for key in value]):
        return False
    return all([isinstance(rows, tuple) and all([is_outcome(due, row, len(key[2])) for row in rows])
                and ascends([repr(row) for row in rows]) for key, rows in value.items()])


def is_key(due, value):
    """True if the value can be a key."""
    if not is_tuple(value, 3) or not isinstance(value[0], str) or value[0] not in due.choices:
        return False
    if not is_offset(due, value[1]) or not isinstance(value[2], tuple):
        return False
    known = due.facts.program["modes"]
    return all([isinstance(mode, str) and mode in known for mode in value[2]]) and ascends(value[2])


class Look:
    """How far a table has been looked through, and whether it is closed so far."""

    def __init__(self, due, table):
        self.due = due
        self.table = table
        self.many = 0
        self.goes_on = True


def look_through(look, plan, outcomes):
    """Looks through all states of a plan; outcomes are those that the table has of its key."""
    met = {}
    todo = [first_state(look.due, plan)]
    while todo and look.goes_on:
        state = todo.pop()
        if state in met:
            continue
        met[state] = True
        look.many += 1
        behind = states_behind(look, plan, state, outcomes)
        if behind is None or look.many > MOST_STATES:
            look.goes_on = False
        else:
            todo.extend(behind)


def states_behind(look, plan, state, outcomes):
    """The list of the states behind a state by a sign or a child; None if the table is not closed there."""
    grammar = look.due.facts.grammar
    if grammar.is_final(plan.kind, state[0]):
        outcome = outcome_of(look.due, plan, state)
        if not is_right_end(look.due, plan, outcome) or (plan.number != WHOLE and outcome not in outcomes):
            return None
    found = []
    for begin, symbol, behind in grammar.automaton(plan.kind)[1]:
        if begin != state[0]:
            continue
        if symbol == "char":
            found.extend([behind_sign(look.due, plan, state, behind, sign) for sign in SIGNS])
            continue
        key = key_of(plan, symbol, state[1])
        if key not in look.table:
            return None
        found.extend([behind_child(plan, state, behind, key, outcome) for outcome in look.table[key]])
    return found if all([all_fit(look.due, rows) for _, _, rows in found]) else None


def judge_differ(facts, kind, attributes, modes, inside):
    """True if the value is a valid inside with other rows than the due ones; it may be anything."""
    if not is_inside(facts.grammar, kind, inside):
        return False
    due = rows_of(facts, kind, attributes, modes, least_inside(facts.grammar, kind))
    return rows_of(facts, kind, attributes, modes, inside) != due
