"""Another reading of schemas: valid documents, told tree by tree, and completions, found event by event."""

from content_oracle import behind, can_be_empty, reader_of, types_in


def child_types(schema, kind):
    """A dict from element names to the types of children in the content of the type."""
    return {schema["types"][name][0]: name for name in types_in(schema["types"][kind][2])}


def is_valid_tree(schema, tree, kind=None):
    """True if the tree is a valid element of the type, at first of the root type."""
    kind = kind or schema["root"]
    element, attributes, content = schema["types"][kind]
    name, given, children = tree
    if name != element or not {key for key, _ in given} <= {key for key, _ in attributes}:
        return False
    if not {key for key, needed in attributes if needed} <= {key for key, _ in given}:
        return False
    known = child_types(schema, kind)
    row = []
    for child in children:
        if isinstance(child, str):
            row.append("char")
        elif child[0] not in known or not is_valid_tree(schema, child, known[child[0]]):
            return False
        else:
            row.append(known[child[0]])
    return reader_of(content, types_in(content))(row)


def next_stack(schema, stack, event):
    """The open elements behind an event that can come, as tuples (type, what may stand behind its children)."""
    if event[0] == "end":
        return stack[:-1] if stack and can_be_empty(stack[-1][1]) else None
    if not stack:
        return ((schema["root"], schema["types"][schema["root"]][2]),)
    kind, content = stack[-1]
    child = "char" if event[0] == "char" else child_types(schema, kind)[event[1]]
    rest = behind(content, child)
    if rest is None:
        return None
    inner = () if child == "char" else ((child, schema["types"][child][2]),)
    return (*stack[:-1], (kind, rest), *inner)


def choices(schema, stack):
    """All that could come next, in the order in which events are compared."""
    kind = stack[-1][0] if stack else None
    kinds = child_types(schema, kind).values() if stack else [schema["root"]]
    starts = []
    for child in kinds:
        element, attributes, _ = schema["types"][child]
        starts.append(("start", element, tuple((name, "") for name, needed in attributes if needed)))
    return ([("end", schema["types"][kind][0]), ("char", "a")] if stack else []) + sorted(starts)


def first_completion(schema, stack, most=40):
    """The first shortest row of events that ends all open elements of the stack, found event by event.

    All rows are gone through by their length and, of one length, in their order; of those that lead to the same
    open elements only the first one. None if there is none of at most so many events.
    """
    rows = [((), stack)]
    met = {stack}
    for _ in range(most):
        longer = []
        for row, stack in rows:
            for event in choices(schema, stack):
                after = next_stack(schema, stack, event)
                if after == ():
                    return [*row, event]
                if after is not None and after not in met:
                    met.add(after)
                    longer.append(((*row, event), after))
        rows = longer
    return None


def random_schema(chance, make_content, is_schema):
    """A schema of few types, made until it is one."""
    while True:
        kinds = ["a", "b", "c2", "root"][:chance.randrange(1, 5)]
        types = {}
        for kind in kinds:
            attributes = tuple((name, chance.random() < 0.5) for name in "xyz" if chance.random() < 0.3)
            element = chance.choice(["e", "f", "g", "h", kind])
            types[kind] = (element, attributes, make_content(chance, kinds))
        schema = {"root": chance.choice(kinds), "types": types}
        if is_schema(schema):
            return schema


def small_content(chance, kinds, depth=2):
    kind = chance.randrange(9 if depth else 4)
    if kind < 3:
        return "type", chance.choice(kinds)
    if kind < 4:
        return chance.choice([("empty",), ("chars",)])
    if kind < 6:
        return ("seq", "or")[kind - 4], tuple(small_content(chance, kinds, depth - 1)
                                              for _ in range(chance.randrange(2, 4)))
    return ("star", "plus", "maybe")[kind - 6], small_content(chance, kinds, depth - 1)


def random_events(chance, schema, many):
    """A row of events that goes right for a while, as far as names and attributes go."""
    names = ["e", "f", "g", *[row[0] for row in schema["types"].values()]]
    events, around = [], []
    kind = schema["root"]
    for number in range(many):
        if number == 0 and chance.random() < 0.95:
            name = schema["types"][kind][0]
        elif chance.random() < 0.45 and around:
            events.append(("end", around.pop()))
            continue
        elif chance.random() < 0.3:
            events.append(chance.choice([("char", "x"), ("end", chance.choice(names))]))
            continue
        else:
            name = chance.choice(names)
        rows = [row for row in schema["types"].values() if row[0] == name]
        known = chance.choice(rows)[1] if rows else ()
        attributes = [(key, "v") for key, needed in known if chance.random() < (0.97 if needed else 0.5)]
        if chance.random() < 0.03:
            attributes.append(("zz", ""))
        events.append(("start", name, tuple(sorted(attributes))))
        around.append(name)
    return events
