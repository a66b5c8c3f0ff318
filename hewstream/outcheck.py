"""Whether the outputs of all valid documents are right for an output schema."""

from heapq import heappop, heappush

from hewstream.contexts import FAULT, TOP, Plan, behaviour_of, first_functions, form_of, functions_behind
from hewstream.contexts import lane_contexts, many_states
from hewstream.events import ascends, is_tuple
from hewstream.tokens import is_integer

MOST_BEHAVIOURS = 100
MOST_ROWS = 300


def keys_of(facts, output):
    """A dict from the input types to the ascending tuples of their keys (mode, context)."""
    found = {}
    todo = [(facts.grammar.root, facts.program["start"], TOP)]
    while todo:
        kind, mode, context = todo.pop()
        if (kind, mode, context) in found:
            continue
        found[kind, mode, context] = True
        for attributes in facts.cases(kind):
            contexts = lane_contexts(output, facts.parts(mode, kind, attributes), context)
            for (inner, symbols), where in zip(facts.lanes(mode, kind, attributes), contexts):
                if where is not None:
                    todo.extend([(symbol, inner, where) for symbol in symbols if symbol != "char"])
    keys = {kind: [] for kind in facts.grammar.types()}
    for kind, mode, context in sorted(found):
        keys[kind].append((mode, context))
    return {kind: tuple(rows) for kind, rows in keys.items()}


def behaviour(facts, output, kind, attributes, children):
    """The behaviour of an element with these children, a list of tuples (symbol, behaviour or None)."""
    plan = Plan(facts, output, kind, attributes, keys_of(facts, output)[kind])
    functions = first_functions(plan)
    for symbol, told in children:
        functions = functions_behind(plan, functions, symbol, told)
    return behaviour_of(plan, functions)


def plans_of(facts, output):
    """A dict from the input types to the lists of the plans of their cases, of equal ones the first one."""
    keys = keys_of(facts, output)
    plans = {}
    for kind in facts.grammar.types():
        found = {}
        for attributes in facts.cases(kind):
            plan = Plan(facts, output, kind, attributes, keys[kind])
            found.setdefault(form_of(plan), plan)
        plans[kind] = list(found.values())
    return plans


class Search:
    """The behaviours of the least closed table, those of elements with fewer events first.

    A row is a tuple (type, number of the plan, state, functions): what some first children of an
    element lead to. What is found is a row, or a behaviour as a tuple (type, behaviour).
    """

    def __init__(self, facts, output):
        self.grammar = facts.grammar
        self.plans = plans_of(facts, output)
        self.queue = []
        # How often something was put in the queue: of equal costs the earlier one comes first.
        self.pushed = 0
        # How many behaviours, and how many rows of each plan, were met.
        self.met = {}
        self.counts = {}
        self.gives_up = False
        # The least numbers of events, and how they come about: a row by (row before, symbol, child's
        # behaviour), a behaviour by its last row; None for a row without children.
        self.costs = {}
        self.ways = {}
        self.found = {kind: [] for kind in self.plans}
        # By the types of children the tuples (row, next state) that they can come behind.
        self.waiting = {kind: [] for kind in self.plans}
        run_search(self)


def run_search(search):
    """Finds all behaviours, or gives up."""
    for kind, plans in search.plans.items():
        for number, plan in enumerate(plans):
            push(search, 1, (kind, number, 0, first_functions(plan)), None)
    while search.queue and not search.gives_up:
        cost, _, item, way = heappop(search.queue)
        if item in search.costs:
            continue
        search.costs[item] = cost
        search.ways[item] = way
        if is_tuple(item, 2):
            take_behaviour(search, item)
        else:
            take_row(search, item)


def push(search, cost, item, way):
    """Puts a row or a behaviour into the queue, and gives up if it is one too many."""
    if item not in search.met:
        search.met[item] = True
        place, most = ("", MOST_BEHAVIOURS) if is_tuple(item, 2) else (item[:2], MOST_ROWS)
        search.counts[place] = search.counts.get(place, 0) + 1
        if search.counts[place] > most:
            search.gives_up = True
    if item not in search.costs:
        search.pushed += 1
        heappush(search.queue, (cost, search.pushed, item, way))


def take_row(search, row):
    """Goes on from a row by a sign, by children whose behaviours are known, and by the end."""
    kind, number, state, functions = row
    plan = search.plans[kind][number]
    if search.grammar.is_final(kind, state):
        push(search, search.costs[row] + 1, (kind, behaviour_of(plan, functions)), row)
    for begin, symbol, behind in search.grammar.automaton(kind)[1]:
        if begin != state:
            continue
        if symbol == "char":
            push_row(search, row, behind, symbol, None)
            continue
        search.waiting[symbol].append((row, behind))
        for told in search.found[symbol]:
            push_row(search, row, behind, symbol, told)


def take_behaviour(search, item):
    """Goes on by a child with this behaviour from the rows that are known."""
    symbol, told = item
    search.found[symbol].append(told)
    for row, behind in search.waiting[symbol]:
        push_row(search, row, behind, symbol, told)


def push_row(search, row, behind, symbol, told):
    """Puts the row behind one more child into the queue; its behaviour is None for a sign."""
    kind, number, _, functions = row
    cost = 1 if told is None else search.costs[symbol, told]
    functions = functions_behind(search.plans[kind][number], functions, symbol, told)
    push(search, search.costs[row] + cost, (kind, number, behind, functions), (row, symbol, told))


def table_of(search):
    """The least closed table."""
    return {kind: tuple(sorted(rows)) for kind, rows in search.found.items()}


def is_right(told, facts):
    """True if the behaviour of a root tells that the output is right."""
    ends = {key: row for key, row in told}
    return ends[facts.program["start"], TOP][0] == 1


def check_output(facts, output):
    """("right", table), ("wrong", document) or ("many", ())."""
    search = Search(facts, output)
    if search.gives_up:
        return "many", ()
    root = facts.grammar.root
    for told in search.found[root]:
        if not is_right(told, facts):
            return "wrong", least_document(search, root, told)
    return "right", table_of(search)


def least_document(search, kind, told):
    """The events of an element with the behaviour, as few as there can be."""
    events = []
    # What is still to be told: events, and behaviours as tuples (type, behaviour).
    todo = [(kind, told)]
    while todo:
        item = todo.pop()
        if item in search.ways:
            todo.extend(inner_items(search, item)[::-1])
        else:
            events.append(item)
    return events


def inner_items(search, item):
    """The events and children of an element with a behaviour, in order."""
    name = search.grammar.name_of(item[0])
    row = search.ways[item]
    items = [("end", name)]
    attributes = search.plans[row[0]][row[1]].attributes
    while search.ways[row] is not None:
        row, symbol, told = search.ways[row]
        items.append(("char", "a") if told is None else (symbol, told))
    return [("start", name, attributes)] + items[::-1]


def judge_behaviours(facts, output, table):
    """True if the value is a closed table in which all behaviours of the root type are right."""
    keys = keys_of(facts, output)
    if not isinstance(table, dict) or len(table) != len(keys) or not all([kind in table for kind in keys]):
        return False
    if not all([is_behaviours(output, table[kind], keys[kind]) for kind in keys]):
        return False
    if not all([is_right(told, facts) for told in table[facts.grammar.root]]):
        return False
    plans = plans_of(facts, output)
    return all([is_closed(facts.grammar, table, kind, plan) for kind in keys for plan in plans[kind]])


def is_behaviours(output, value, keys):
    """True if the value can be the behaviours of a type with these keys."""
    return isinstance(value, tuple) and all([is_behaviour(output, row, keys) for row in value]) and ascends(value)


def is_behaviour(output, value, keys):
    """True if the value can be a behaviour of an element of a type with these keys."""
    if not is_tuple(value, len(keys)) or not all([is_tuple(row, 2) and is_tuple(row[0], 2) for row in value]):
        return False
    for (key, ends), due in zip(value, keys):
        if not isinstance(key[0], str) or not isinstance(key[1], str) or key != due:
            return False
        many = many_states(output, due[1])
        if not is_tuple(ends, many) or not all([is_integer(end) and FAULT <= end < many for end in ends]):
            return False
    return True


def is_closed(grammar, table, kind, plan):
    """True if all that comes about by the plan is in the table, and by no more than MOST_ROWS rows."""
    first = (0, first_functions(plan))
    found = {first: True}
    todo = [first]
    while todo:
        state, functions = todo.pop()
        if grammar.is_final(kind, state) and behaviour_of(plan, functions) not in table[kind]:
            return False
        for begin, symbol, behind in grammar.automaton(kind)[1]:
            if begin != state:
                continue
            for told in [None] if symbol == "char" else table[symbol]:
                row = (behind, functions_behind(plan, functions, symbol, told))
                if row not in found:
                    found[row] = True
                    todo.append(row)
        if len(found) > MOST_ROWS:
            return False
    return True
