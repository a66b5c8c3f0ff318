"""Tells at each event of a document whether a right output can still come."""

from heapq import heappop, heappush

from hewstream.contexts import Plan, behaviour_of, first_functions, form_of, functions_behind
from hewstream.errors import NotDocument, TooMany
from hewstream.outcheck import Search, is_right, keys_of, least_document
from hewstream.validator import Validator, child_of


class Guard:
    """Follows one document event by event."""

    def __init__(self, facts, output):
        self.facts = facts
        self.output = output
        self.keys_met = keys_of(facts, output)
        self.search = searched(facts, output)
        self.validator = Validator(facts.grammar)
        self.taken = 0
        # The open elements, the root first.
        self.around = []
        # The behaviour of the root, when it has ended.
        self.told = None
        # The numbers of the plans of the types, by their forms.
        self.numbers = {}
        # What is known of rows of the search, by these.
        self.steps_known = {}
        self.ways_known = {}

    def can_be_right(self):
        """True if some valid continuation leads to a right output."""
        if self.told is not None:
            return is_right(self.told, self.facts)
        if not self.around:
            return len(root_due(self)) > 0
        element = self.around[-1]
        return any([told in element.due for told in ways_from(self, row_of(element)).ends])

    def take(self, event):
        """Takes an input event; True if a right output can still come behind it."""
        kind = child_of(self.validator, event) if event[0] == "start" else ""
        if self.validator.take(event) != "":
            raise NotDocument(self.taken)
        self.taken += 1
        if event[0] == "start":
            begin_element(self, kind, event[2])
        elif event[0] == "char":
            add_child(self, self.around[-1], "char", None)
        else:
            end_element(self)
        return self.can_be_right()

    def completion(self):
        """A shortest right completion of what has been taken, or None."""
        if not self.can_be_right():
            return None
        if self.told is not None:
            return []
        if not self.around:
            root = self.facts.grammar.root
            costs = self.search.costs
            _, _, told = min([(costs[root, told], at, told) for at, told in enumerate(root_due(self))])
            return least_document(self.search, root, told)
        return completed(self)


class Opened:
    """An open element: its row is that of the children that have ended, in the state behind the open one."""

    def __init__(self, kind, plan, functions, due):
        self.kind = kind
        # The number of the plan of its attributes.
        self.plan = plan
        self.state = 0
        self.functions = functions
        # The least numbers of events behind its end for a right output, by the behaviours with which it can end.
        self.due = due


class Ways:
    """What can become of a row: its ends are tuples (number of the events, last row) by behaviours."""

    def __init__(self):
        self.ends = {}
        # By the rows on the way the tuples (row before, symbol, child's behaviour), None for the first row.
        self.before = {}


def searched(facts, output):
    """The search that has found the least closed table."""
    search = Search(facts, output)
    if search.gives_up:
        raise TooMany()
    return search


def root_due(guard):
    """A dict with the right behaviours of the root."""
    return {told: 0 for told in guard.search.found[guard.facts.grammar.root] if is_right(told, guard.facts)}


def begin_element(guard, kind, attributes):
    """The start of an element of this type."""
    due = root_due(guard)
    if guard.around:
        parent = guard.around[-1]
        parent.state = guard.facts.grammar.step(parent.kind, parent.state, kind)
        due = child_due(guard, parent, kind)
    form = form_of(Plan(guard.facts, guard.output, kind, attributes, guard.keys_met[kind]))
    plans = guard.search.plans[kind]
    if kind not in guard.numbers:
        guard.numbers[kind] = {form_of(plan): number for number, plan in enumerate(plans)}
    # Some case leaves the same of all rules, but for the strings.
    number = guard.numbers[kind][form]
    guard.around.append(Opened(kind, number, first_functions(plans[number]), due))


def child_due(guard, parent, kind):
    """The same as in Opened, for a child of this type."""
    due = {}
    plan = guard.search.plans[parent.kind][parent.plan]
    for told in guard.search.found[kind]:
        row = (parent.kind, parent.plan, parent.state, functions_behind(plan, parent.functions, kind, told))
        ends = ways_from(guard, row).ends
        costs = [ends[end][0] + parent.due[end] for end in ends if end in parent.due]
        if costs:
            due[told] = min(costs)
    return due


def add_child(guard, element, symbol, told):
    """A child of the element has come; its behaviour is None for a sign."""
    if told is None:
        element.state = guard.facts.grammar.step(element.kind, element.state, symbol)
    plan = guard.search.plans[element.kind][element.plan]
    element.functions = functions_behind(plan, element.functions, symbol, told)


def end_element(guard):
    """The end of the open element."""
    element = guard.around.pop()
    told = behaviour_of(guard.search.plans[element.kind][element.plan], element.functions)
    if guard.around:
        add_child(guard, guard.around[-1], element.kind, told)
    else:
        guard.told = told


def row_of(element):
    """The row of the search that the open element has come to."""
    return element.kind, element.plan, element.state, element.functions


def steps_from(guard, row):
    """The list of the tuples (number of events, next row, symbol, child's behaviour), the least for each next row."""
    if row not in guard.steps_known:
        kind, number, state, functions = row
        plan = guard.search.plans[kind][number]
        found = {}
        for begin, symbol, behind in guard.facts.grammar.automaton(kind)[1]:
            if begin != state:
                continue
            for told in [None] if symbol == "char" else guard.search.found[symbol]:
                cost = 1 if told is None else guard.search.costs[symbol, told]
                after = (kind, number, behind, functions_behind(plan, functions, symbol, told))
                if after not in found or cost < found[after][0]:
                    found[after] = (cost, after, symbol, told)
        guard.steps_known[row] = list(found.values())
    return guard.steps_known[row]


def ways_from(guard, first):
    """All that can become of the row, by ways of the fewest events."""
    if first in guard.ways_known:
        return guard.ways_known[first]
    ways = Ways()
    kind, number, _, _ = first
    plan = guard.search.plans[kind][number]
    # Of equal numbers the way that was found first comes first.
    queue = [(0, 0, first, None)]
    pushed = 0
    while queue:
        cost, _, row, before = heappop(queue)
        if row in ways.before:
            continue
        ways.before[row] = before
        if guard.facts.grammar.is_final(kind, row[2]):
            ways.ends.setdefault(behaviour_of(plan, row[3]), (cost + 1, row))
        for more, after, symbol, told in steps_from(guard, row):
            if after not in ways.before:
                pushed += 1
                heappush(queue, (cost + more, pushed, after, (row, symbol, told)))
    guard.ways_known[first] = ways
    return ways


def completed(guard):
    """The events of a shortest right completion of the open elements."""
    events = []
    inner = None
    for element in guard.around[::-1]:
        functions = element.functions
        if inner is not None:
            plan = guard.search.plans[element.kind][element.plan]
            functions = functions_behind(plan, functions, inner[0], inner[1])
        ways = ways_from(guard, (element.kind, element.plan, element.state, functions))
        rows = []
        for at, (told, (cost, row)) in enumerate(ways.ends.items()):
            if told in element.due:
                rows.append((cost + element.due[told], at, told, row))
        _, _, told, row = min(rows)
        events.extend(events_on(guard, ways, row))
        events.append(("end", guard.facts.grammar.name_of(element.kind)))
        inner = (element.kind, told)
    return events


def events_on(guard, ways, row):
    """The events of the children on the way to the row."""
    rows = []
    while ways.before[row] is not None:
        row, symbol, told = ways.before[row]
        rows.append([("char", "a")] if told is None else least_document(guard.search, symbol, told))
    return [event for children in rows[::-1] for event in children]


def first_wrong(facts, output, events):
    """The number of the first event at which a guard says no, -1 if there is none."""
    guard = Guard(facts, output)
    for number, event in enumerate(events):
        if not guard.take(event):
            return number
    return -1


def least_costs(facts, output):
    """A dict from the input types to dicts from the behaviours of the least closed table to their least costs."""
    search = searched(facts, output)
    return {kind: {told: search.costs[kind, told] for told in found} for kind, found in search.found.items()}
