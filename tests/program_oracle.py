"""Random programs and documents, and another reading of what programs write: straight from their words."""

import itertools

from hewstream.completions import completion, least_to, weights
from hewstream.validator import Validator

MODES = ["k", "m", "n"]
STRINGS = ["", "a", "aa", "b", "-"]


def random_program(chance, grammar, attributes=True, most_modes=3):
    """A program that fits; some of its rules are missing."""
    modes = {mode: chance.random() < 0.6 for mode in MODES[:chance.randrange(1, most_modes + 1)]}
    rules = {}
    for mode in modes:
        for kind in grammar.types():
            if chance.random() < 0.85:
                rules[mode, kind] = random_body(chance, grammar, list(modes), kind, 2, attributes)
    return {"start": chance.choice(sorted(modes)), "modes": modes, "rules": rules}


def random_body(chance, grammar, modes, kind, depth, attributes):
    names = [name for name, _ in grammar.attributes_of(kind)] if attributes else []
    near = [symbol for _, symbol, _ in grammar.automaton(kind)[1]] or ["char"]
    body = []
    for _ in range(chance.choice([0, 1, 1, 2, 2, 3])):
        which = chance.randrange(8 if depth else 6)
        if which < 1:
            body.append(("text", chance.choice(STRINGS)))
        elif which < 2 and names:
            body.append(("value", chance.choice(names)))
        elif which < 6:
            # Mostly symbols that can come, sometimes others.
            symbols = {chance.choice(near) if chance.random() < 0.9 else chance.choice(grammar.types() + ["char"])
                       for _ in range(chance.randrange(1, 4))}
            body.append(("each", chance.choice(modes), tuple(sorted(symbols))))
        elif which < 7 or not names:
            made = sorted({chance.choice("pq") for _ in range(chance.randrange(2))})
            parts = [(name, tuple(random_parts(chance, names))) for name in made]
            inner = random_body(chance, grammar, modes, kind, depth - 1, attributes)
            body.append(("make", chance.choice(["e", "f", "g"]), tuple(parts), inner))
        else:
            body.append(("if", chance.choice(names), chance.choice([None, *STRINGS]),
                         random_body(chance, grammar, modes, kind, depth - 1, attributes),
                         random_body(chance, grammar, modes, kind, depth - 1, attributes)))
    return tuple(body)


def random_parts(chance, names):
    return [("value", chance.choice(names)) if names and chance.random() < 0.5 else ("text", chance.choice(STRINGS))
            for _ in range(chance.randrange(1, 3))]


def random_document(chance, grammar, most, signs="xy<"):
    """A valid document; behind about so many events it is ended as shortly as can be."""
    validator = Validator(grammar)
    events = []
    while not validator.is_complete():
        if len(events) >= most:
            return events + completion(grammar, validator)
        rows = validator.expected()
        # Ends are taken seldom, so that documents do not end at once.
        if len(rows) > 1 and rows[0][0] == "end" and chance.random() < 0.6:
            rows = rows[1:]
        event = random_event(chance, grammar, validator, chance.choice(rows), signs)
        assert validator.take(event) == ""
        events.append(event)
    return events


def random_event(chance, grammar, validator, row, signs):
    if row[0] == "end":
        return row
    if row[0] == "char":
        return "char", chance.choice(signs)
    kinds = validator.open_types()
    kind = grammar.child_type(kinds[-1], row[1]) if kinds else grammar.root
    attributes = [(name, chance.choice(STRINGS)) for name, needed in grammar.attributes_of(kind)
                  if needed or chance.random() < 0.5]
    return "start", row[1], tuple(attributes)


class Element:
    """An element of a document with the place of its start; its children are Elements and tuples (sign, place)."""

    def __init__(self, kind, attributes, place):
        self.kind, self.attributes, self.place, self.children = kind, dict(attributes), place, []


def element_of(grammar, document):
    root, around = None, []
    for place, event in enumerate(document):
        if event[0] == "end":
            around.pop()
        elif event[0] == "char":
            around[-1].children.append((event[1], place))
        else:
            kind = grammar.child_type(around[-1].kind, event[1]) if around else grammar.root
            element = Element(kind, event[2], place)
            if around:
                around[-1].children.append(element)
            root = root or element
            around.append(element)
    return root


def written(program, mode, element):
    """What the rule of the mode writes for the element."""
    return written_by(program, program["rules"].get((mode, element.kind), ()), element)


def written_by(program, body, element):
    told = []
    for item in body:
        if item[0] == "text":
            told += [(("signs", item[1]), element.place)] * (item[1] != "")
        elif item[0] == "value":
            value = element.attributes.get(item[1], "")
            told += [(("signs", value), element.place)] * (value != "")
        elif item[0] == "make":
            made = tuple((name, "".join(part[1] if part[0] == "text" else element.attributes.get(part[1], "")
                                        for part in parts)) for name, parts in item[2])
            told += [(("start", item[1], made), element.place), *written_by(program, item[3], element),
                     (("end", item[1]), element.place)]
        elif item[0] == "if":
            value = element.attributes.get(item[1])
            holds = value is not None if item[2] is None else value == item[2]
            told += written_by(program, item[3] if holds else item[4], element)
        else:
            for child in element.children:
                if isinstance(child, Element):
                    told += written(program, item[1], child) if child.kind in item[2] else []
                elif "char" in item[2] and program["modes"][item[1]]:
                    told.append((("char", child[0]), child[1]))
    return told


def plain_meaning(grammar, program, document):
    """The plain output, straight from the words of the document."""
    return written(program, program["start"], element_of(grammar, document))


def continuations(grammar, events, cases, many):
    """All valid documents that go on from the events by at most so many, and are then ended as shortly as can be."""
    validator = Validator(grammar)
    for event in events:
        assert validator.take(event) == ""
    rows = [([], validator)]
    for _ in range(many + 1):
        longer = []
        for row, at in rows:
            yield events + row + completion(grammar, at)
            for event in next_events(grammar, at, cases):
                behind = at.copied()
                behind.take(event)
                longer.append(([*row, event], behind))
        rows = longer


def next_events(grammar, validator, cases):
    """All events that can come next, the signs being "a", the attributes the cases of the type."""
    kinds = validator.open_types()
    for row in validator.expected():
        if row[0] == "end":
            yield row
        elif row[0] == "char":
            yield "char", "a"
        else:
            kind = grammar.child_type(kinds[-1], row[1]) if kinds else grammar.root
            for attributes in cases(kind):
                yield "start", row[1], attributes


def all_documents(grammar, cases, most, width=None):
    """All valid documents of at most so many events, the signs being "a".

    With a width no more than so many beginnings of each length are gone on from.
    """
    costs = {kind: costs_to_end(grammar, kind) for kind in grammar.types()}
    rows = [([], Validator(grammar))]
    for number in range(most):
        longer = []
        for row, at in rows[:width]:
            for event in next_events(grammar, at, cases):
                behind = at.copied()
                behind.take(event)
                if behind.is_complete():
                    yield [*row, event]
                elif number + 1 + sum(costs[kind][state] + 1 for kind, state in zip(
                        behind.open_types(), behind.states())) <= most:
                    longer.append(([*row, event], behind))
        rows = longer


def costs_to_end(grammar, kind):
    """A dict from the states of the content to the least numbers of events with which it can end."""
    known = {**weights(grammar), "char": 1}
    finals, edges = grammar.automaton(kind)
    states = {0} | {end for _, _, end in edges}
    return {state: sum(known[symbol] for symbol in least_to(grammar, kind, state, list(finals))) for state in states}


def deepest(document):
    """How deep the elements of a document, or of its beginning, are nested."""
    nested = [0]
    for event in document:
        nested.append(nested[-1] + {"start": 1, "char": 0, "end": -1}[event[0]])
    return max(nested)


def some(rows, many):
    return list(itertools.islice(rows, many))


def closings(grammar, events):
    """The events, and behind them the shortest ways to end the innermost open element, the innermost two, and so on."""
    validator = Validator(grammar)
    for event in events:
        validator.take(event)
    rows = [list(events)]
    depth = len(validator.open_types())
    row = list(events)
    for event in completion(grammar, validator):
        validator.take(event)
        row.append(event)
        if len(validator.open_types()) < depth:
            depth = len(validator.open_types())
            rows.append(list(row))
    return rows
