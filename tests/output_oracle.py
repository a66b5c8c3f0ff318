"""Another reading of right outputs: events walked through the contents of the output schema, one by one."""

from hewstream.events import document_events
from hewstream.validator import validate
from program_oracle import plain_meaning


def output_of(grammar, program, document, mode=None):
    """The document events of the plain output."""
    program = dict(program, start=mode or program["start"])
    return document_events([event for event, _ in plain_meaning(grammar, program, document)])


def is_right(grammar, program, output, document):
    return validate(output, output_of(grammar, program, document)) == (-1, "")


def walk(output, context, state, events):
    """The state of the context to which the events lead, or -1; the context "" is the top."""
    around = []
    for event in events:
        if event[0] == "start":
            if context == "":
                child, behind = (output.root, 1) if event[1] == output.name_of(output.root) and state == 0 else (None, None)
            else:
                child = output.child_type(context, event[1])
                behind = child and output.step(context, state, child)
            if child is None or behind is None:
                return -1
            known = dict(output.attributes_of(child))
            given = [name for name, _ in event[2]]
            if not set(given) <= set(known) or not {name for name in known if known[name]} <= set(given):
                return -1
            around.append((context, behind))
            context, state = child, 0
        elif event[0] == "char":
            state = None if context == "" else output.step(context, state, "char")
            if state is None:
                return -1
        else:
            if not output.is_final(context, state):
                return -1
            context, state = around.pop()
    return state


def states_of_context(output, context):
    return 2 if context == "" else 1 + max([0] + [edge[2] for edge in output.automaton(context)[1]])


def seen_behaviour(grammar, program, output, keys, document):
    """The behaviour of the element that is the document, of the grammar's root type."""
    found = []
    for mode, context in keys:
        events = output_of(grammar, program, document, mode)
        found.append(((mode, context), tuple(walk(output, context, state, events)
                                             for state in range(states_of_context(output, context)))))
    return tuple(found)
