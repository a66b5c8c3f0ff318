"""The least elements that give something in a mode."""

from heapq import heappop, heappush

from hewstream.completions import costs_to, expanded, row_to, weights


class Givers:
    """For modes and symbols: how few events an element has that gives something, and how it begins."""

    def __init__(self, facts):
        self.grammar = facts.grammar
        self.known = weights(facts.grammar)
        # The least numbers of events, by (mode, symbol).
        self.costs = {}
        # By (mode, type): the attributes, the edge of the child that gives something, and the mode of
        # its lane; the edge is None if the rule itself writes something.
        self.ways = {}
        queue, users = first_ways(self, facts)
        while queue:
            cost, pair, way = heappop(queue)
            if pair in self.costs:
                continue
            self.costs[pair] = cost
            self.ways[pair] = way
            for user, more, user_way in users.get(pair, []):
                if user not in self.costs:
                    heappush(queue, (cost + more, user, user_way))


def first_ways(givers, facts):
    """The queue of the ways that need no child, and a dict from pairs (mode, symbol) to what they allow.

    That are tuples (pair, number of the further events, way).
    """
    queue = []
    users = {}
    for mode, keeps in sorted(facts.program["modes"].items()):
        if keeps:
            heappush(queue, (1, (mode, "char"), ()))
    for mode, kind in sorted(facts.program["rules"]):
        met = {}
        for attributes in facts.cases(kind):
            for way in ways_of(facts, mode, kind, attributes):
                met.setdefault(way, attributes)
        for (edge, inner), attributes in met.items():
            if edge is None:
                heappush(queue, (givers.known[kind], (mode, kind), (attributes, (), "")))
            else:
                row = ((mode, kind), cost_around(givers, kind, edge), (attributes, edge, inner))
                users.setdefault((inner, edge[1]), []).append(row)
    return queue, users


def ways_of(facts, mode, kind, attributes):
    """The list of the tuples (edge, mode of the lane) by which children can come into lanes of the rule.

    (None, "") stands for what the rule itself writes.
    """
    found = []
    for part in facts.parts(mode, kind, attributes):
        if part[0] == "event":
            found.append((None, ""))
        else:
            found.extend([(edge, part[1]) for edge in facts.grammar.automaton(kind)[1] if edge[1] in part[2]])
    return found


def cost_around(givers, kind, edge):
    """The least number of events of an element that goes by the edge, but for those of this child."""
    return 2 + cost_between(givers, kind, 0, [edge[0]]) + cost_to_end(givers, kind, edge[2])


def cost_between(givers, kind, state, targets):
    return costs_to(givers.grammar.automaton(kind), targets, givers.known).get(state)


def cost_to_end(givers, kind, state):
    return cost_between(givers, kind, state, givers.grammar.automaton(kind)[0])


def row_between(givers, kind, state, targets):
    """The events of the least row of children from the state to one of the targets."""
    row = row_to(givers.grammar, givers.known, kind, state, targets)
    return expanded(givers.grammar, givers.known, row)


def row_to_end(givers, kind, state):
    """The events of the least row of children from the state to an end of the content."""
    return row_between(givers, kind, state, givers.grammar.automaton(kind)[0])


def giving_events(givers, mode, symbol):
    """The events of a child with this symbol that gives something in the mode."""
    events = []
    behind = []
    while symbol != "char":
        attributes, edge, inner = givers.ways[mode, symbol]
        events.append(("start", givers.grammar.name_of(symbol), attributes))
        if not edge:
            events.extend(row_to_end(givers, symbol, 0))
            events.append(("end", givers.grammar.name_of(symbol)))
            return events + joined_backwards(behind)
        begin, child, end = edge
        events.extend(row_between(givers, symbol, 0, [begin]))
        behind.append(row_to_end(givers, symbol, end) + [("end", givers.grammar.name_of(symbol))])
        mode, symbol = inner, child
    events.append(("char", "a"))
    return events + joined_backwards(behind)


def joined_backwards(rows):
    """The events of all rows, those of the last row first."""
    return [event for row in rows[::-1] for event in row]


def giving_row(givers, kind, state, mode, symbols):
    """The events of children from the state to an end of the content, one of which gives something.

    What it gives comes into the lane of the mode and symbols. There is such a row, as the lane is live.
    """
    rows = []
    for edge in givers.grammar.automaton(kind)[1]:
        before = cost_between(givers, kind, state, [edge[0]])
        if before is not None and edge[1] in symbols and (mode, edge[1]) in givers.costs:
            cost = before + givers.costs[mode, edge[1]] + cost_to_end(givers, kind, edge[2])
            rows.append((cost, edge))
    _, (begin, symbol, end) = min(rows)
    events = row_between(givers, kind, state, [begin])
    return events + giving_events(givers, mode, symbol) + row_to_end(givers, kind, end)
