"""How frames lead through the contents of output elements, from state to state."""

from hewstream.automata import states_of
from hewstream.validator import attribute_fault

# The context outside of the root of the output. It has the states 0 and 1.
TOP = ""
FAULT = -1


def child_context(output, context, name):
    """The context inside of an element with this name, None if it cannot stand in the context."""
    if context == TOP:
        return output.root if name == output.name_of(output.root) else None
    return output.child_type(context, name)


def many_states(output, context):
    """The number of the states of a context."""
    return 2 if context == TOP else states_of(output.automaton(context))


def state_behind(output, context, state, symbol):
    """The state of the context behind an element of this type or "char", or FAULT."""
    if context == TOP:
        return 1 if state == 0 and symbol == output.root else FAULT
    behind = output.step(context, state, symbol)
    return FAULT if behind is None else behind


def lane_contexts(output, parts, context):
    """The list of the contexts of the lanes among the parts; None for one in which nothing is right."""
    around = [context]
    found = []
    for part in parts:
        if part[0] == "lane":
            found.append(around[-1])
        elif part[1][0] == "start":
            around.append(None if around[-1] is None else child_context(output, around[-1], part[1][1]))
        elif part[1][0] == "end":
            around.pop()
    return found


def frame_end(output, parts, context, state, functions):
    """The state to which a frame leads, or FAULT; functions has one for each of its lanes, in order.

    A function is a tuple with the state, or FAULT, to which the lane leads from each state of its context.
    """
    around = []
    lane = 0
    for part in parts:
        if part[0] == "lane":
            state = functions[lane][state]
            lane += 1
        elif part[1][0] == "signs":
            state = state_behind(output, context, state, "char")
        elif part[1][0] == "end":
            if not output.is_final(context, state):
                return FAULT
            context, state = around.pop()
        else:
            child = child_context(output, context, part[1][1])
            if child is None or attribute_fault(output, child, part[1][2]) != "":
                return FAULT
            behind = state_behind(output, context, state, child)
            if behind == FAULT:
                return FAULT
            around.append((context, behind))
            context, state = child, 0
        if state == FAULT:
            return FAULT
    return state


class Plan:
    """What the children of an element with settled attributes lead to, by the keys of its type."""

    def __init__(self, facts, output, kind, attributes, keys):
        self.output = output
        self.modes = facts.program["modes"]
        self.attributes = attributes
        # Tuples (key, parts, numbers of its lanes).
        self.rows = []
        # The different lanes, as tuples (mode, symbols, context).
        self.lanes_met = []
        for mode, context in keys:
            parts = facts.parts(mode, kind, attributes)
            lanes = [part[1:] for part in parts if part[0] == "lane"]
            numbers = []
            for (inner, symbols), where in zip(lanes, lane_contexts(output, parts, context)):
                numbers.append(number_of(self.lanes_met, (inner, symbols, where)))
            self.rows.append(((mode, context), parts, numbers))


def number_of(rows, row):
    """The index of the row, which is put behind the others if it is new."""
    if row not in rows:
        rows.append(row)
    return rows.index(row)


def form_of(plan):
    """A value that is the same for plans by which the same comes about."""
    return tuple([(key, tuple([part_form(part) for part in parts])) for key, parts, _ in plan.rows])


def part_form(part):
    """The part without the strings that it writes."""
    if part[0] == "lane" or part[1][0] == "end":
        return part
    if part[1][0] == "signs":
        return ("signs",)
    return ("start", part[1][1], tuple([name for name, _ in part[1][2]]))


def first_functions(plan):
    """The functions of the lanes of an element without children; () where there is no context."""
    return tuple([() if where is None else tuple(range(many_states(plan.output, where)))
                  for _, _, where in plan.lanes_met])


def functions_behind(plan, functions, symbol, behaviour):
    """The functions of the lanes behind one more child, whose behaviour is None if it is a sign."""
    known = {} if behaviour is None else {key: ends for key, ends in behaviour}
    found = []
    for (mode, symbols, where), function in zip(plan.lanes_met, functions):
        if symbol not in symbols or where is None or (symbol == "char" and not plan.modes[mode]):
            found.append(function)
        elif symbol == "char":
            found.append(tuple([after_sign(plan.output, where, state) for state in function]))
        else:
            ends = known[mode, where]
            found.append(tuple([FAULT if state == FAULT else ends[state] for state in function]))
    return tuple(found)


def after_sign(output, context, state):
    return FAULT if state == FAULT else state_behind(output, context, state, "char")


def behaviour_of(plan, functions):
    """The behaviour of an element whose lanes have these functions."""
    found = []
    for (mode, context), parts, numbers in plan.rows:
        lanes = [functions[number] for number in numbers]
        states = range(many_states(plan.output, context))
        found.append(((mode, context), tuple([frame_end(plan.output, parts, context, state, lanes)
                                              for state in states])))
    return tuple(found)
