"""The least deterministic automata of contents."""

from hewstream.errors import TooMany
from hewstream.regexes import nodes_of

MOST_STATES = 30
MOST_SETS = 400

# A set of places is an integer: the bit k stands for the place k. The bit 0 is no place: in what
# can follow, it tells that the row can end.
END = 1


def automaton_of(content):
    """The automaton of a content."""
    symbols, follows = places_of(nodes_of(content))
    finals, nexts = sets_automaton(symbols, follows)
    finals, nexts = least(finals, nexts)
    edges = []
    for state, row in enumerate(nexts):
        edges.extend([(state, symbol, row[symbol]) for symbol in sorted(row)])
    return tuple(finals), tuple(edges)


def places_of(nodes):
    """The list of the symbols of the places, and that of what can follow each one.

    At the number 0, which is no place, stand "" and what can be first.
    """
    firsts = {}
    numbers = place_numbers(nodes)
    for number in reversed(range(len(nodes))):
        firsts[number] = first_places(nodes[number], numbers.get(number, 0), firsts)
    follows = followers(nodes, firsts, numbers)
    symbols = [""] + [symbol_of(nodes[number]) for number in numbers]
    return symbols, [firsts[0]] + [follows[number] for number in numbers]


def place_numbers(nodes):
    """A dict from the numbers of the nodes that are places to their places, from 1 on."""
    leaves = [number for number, node in enumerate(nodes) if node[0] in ("chars", "type")]
    return {number: place + 1 for place, number in enumerate(leaves)}


def symbol_of(node):
    return "char" if node[0] == "chars" else node[1]


def first_places(node, place, firsts):
    """What can be first in a row of the node, with END if the row can be empty."""
    kind, _, numbers = node
    if kind == "type":
        return 1 << place
    if kind == "chars":
        return 1 << place | END
    if kind == "seq":
        return first_of_row([firsts[part] for part in numbers], END)
    found = 0 if kind in ("or", "plus") else END
    for part in numbers:
        found |= firsts[part]
    return found


def first_of_row(rows, behind):
    """What can be first in rows one after the other, and then in what is behind them."""
    for row in reversed(rows):
        behind = behind_of(row, behind)
    return behind


def behind_of(row, behind):
    """What can be first in a row and then in what is behind it."""
    return row & ~END | behind if row & END else row


def followers(nodes, firsts, numbers):
    """A dict from the nodes that are places to what can follow them in the whole."""
    after = {0: END}
    for number, (kind, _, inner) in enumerate(nodes):
        behind = after[number]
        if kind == "chars":
            after[number] = behind | 1 << numbers[number]
        if kind in ("star", "plus"):
            behind |= firsts[inner[0]] & ~END
        for part in reversed(inner):
            after[part] = behind
            if kind == "seq":
                behind = behind_of(firsts[part], behind)
    return after


def sets_automaton(symbols, follows):
    """The finals and the nexts of the automaton of the sets of places that rows lead to.

    The nexts are a list that has for each state a dict from symbols to states.
    """
    numbers = {0: 0}
    todo = [0]
    finals = []
    nexts = []
    while len(nexts) < len(todo):
        behind = followed_by(todo[len(nexts)], follows)
        if behind & END:
            finals.append(len(nexts))
        row = {}
        for symbol, places in by_symbol(behind, symbols).items():
            if places not in numbers:
                numbers[places] = len(todo)
                todo.append(places)
            row[symbol] = numbers[places]
        if len(todo) > MOST_SETS:
            raise TooMany()
        nexts.append(row)
    return finals, nexts


def followed_by(places, follows):
    """What can follow one of the places; if there is none, what can be first."""
    if places == 0:
        return follows[0]
    behind = 0
    for place in bits_of(places):
        behind |= follows[place]
    return behind


def bits_of(places):
    """The list of the places in a set."""
    found = []
    while places:
        low = places & -places
        found.append(low.bit_length() - 1)
        places ^= low
    return found


def by_symbol(behind, symbols):
    """A dict from symbols to the sets of the places that have them."""
    found = {}
    for place in bits_of(behind & ~END):
        found[symbols[place]] = found.get(symbols[place], 0) | 1 << place
    return found


def least(finals, nexts):
    """The finals and nexts of the least automaton, in the order in which its states are met."""
    blocks = blocks_of(finals, nexts)
    states = {blocks[0]: 0}
    members = [0]
    rows = []
    while len(rows) < len(members):
        row = nexts[members[len(rows)]]
        for symbol in sorted(row):
            block = blocks[row[symbol]]
            if block not in states:
                states[block] = len(members)
                members.append(row[symbol])
        rows.append({symbol: states[blocks[row[symbol]]] for symbol in row})
    if len(members) > MOST_STATES:
        raise TooMany()
    ends = set(finals)
    return [state for state, member in enumerate(members) if member in ends], rows


def blocks_of(finals, nexts):
    """For each state the number of its block: states of one block have the same rows to the end."""
    ends = set(finals)
    blocks = [1 if state in ends else 0 for state in range(len(nexts))]
    many = 0
    while many < len(set(blocks)):
        many = len(set(blocks))
        marks = {}
        refined = []
        for state, row in enumerate(nexts):
            mark = (blocks[state], tuple([(symbol, blocks[row[symbol]]) for symbol in sorted(row)]))
            refined.append(marks.setdefault(mark, len(marks)))
        blocks = refined
    return blocks


def next_state(automaton, state, symbol):
    """The state behind the symbol, or None."""
    for begin, read, end in automaton[1]:
        if begin == state and read == symbol:
            return end
    return None


def is_final(automaton, state):
    """True if a row may end in the state."""
    return state in automaton[0]


def reads(automaton, row):
    """True if the automaton reads the row of symbols."""
    state = 0
    for symbol in row:
        state = next_state(automaton, state, symbol)
        if state is None:
            return False
    return is_final(automaton, state)


def symbols_at(automaton, state):
    """The symbols of the edges from the state, ascending."""
    return sorted([symbol for begin, symbol, _ in automaton[1] if begin == state])


def states_of(automaton):
    """The number of the states; each one but the first is the end of an edge."""
    return 1 + max([end for _, _, end in automaton[1]], default=0)


def parts(automaton):
    """For each state the least one that leads to it and that it leads to."""
    many = states_of(automaton)
    ahead = [reached_from(automaton, state) for state in range(many)]
    return [min([other for other in ahead[state] if state in ahead[other]]) for state in range(many)]


def reached_from(automaton, state):
    """A dict with the states that ways from the state lead to, itself included."""
    found = {state: True}
    todo = [state]
    while todo:
        at = todo.pop()
        for begin, _, end in automaton[1]:
            if begin == at and end not in found:
                found[end] = True
                todo.append(end)
    return found


def inner_edges(automaton):
    """The edges within one part, ascending."""
    least_states = parts(automaton)
    return [edge for edge in automaton[1] if least_states[edge[0]] == least_states[edge[2]]]
