"""What is kept of rows of whole tokens whose places in a document are not known.

A segment stands for the children between two tags that are not matched, as a tuple (table, outer).
The table has for each type and state of its automaton the state behind the children, as an index of
the table, or the first event that cannot come, as a tuple (place, number). Outer tells what matters
if the children stand outside of the root, None if they do not, as a tuple: the place of the first
sign that is no blank, or -1; the number of the signs, and of those before the first element; the
places of the first letters of the first two elements; and the event at which the first one is no
valid root, or None.
"""

from hewstream.automata import states_of
from hewstream.fragments import fragment_of, read_fragment, shifted
from hewstream.tokens import MOST_DEPTH, sign_of
from hewstream.validator import attribute_fault

LESS = 60
AND = 38
SLASH = 47
BANG = 33
BLANK_BYTES = (9, 10, 32)
NOTHING_OUTSIDE = (-1, 0, 0, (), None)


class Slots:
    """The types with the states of their automata, in the order of the tables."""

    def __init__(self, grammar):
        self.grammar = grammar
        self.rows = []
        self.firsts = {}
        for kind in grammar.types():
            self.firsts[kind] = len(self.rows)
            self.rows.extend([(kind, state) for state in range(states_of(grammar.automaton(kind)))])
        self.same = tuple(range(len(self.rows)))
        self.behind_sign = [behind_symbol(self, slot, "char") for slot in self.same]
        # By element names, for each slot the tuple (type of the child, slot behind it), or None.
        self.children = {}


def behind_symbol(slots, slot, symbol):
    """The slot behind the symbol, or -1."""
    kind, state = slots.rows[slot]
    behind = slots.grammar.step(kind, state, symbol)
    return -1 if behind is None else slots.firsts[kind] + behind


def children_by(slots, name):
    """What slots.children has for an element name."""
    if name not in slots.children:
        found = []
        for slot in slots.same:
            child = slots.grammar.child_type(slots.rows[slot][0], name)
            behind = -1 if child is None else behind_symbol(slots, slot, child)
            found.append(None if behind < 0 else (child, behind))
        slots.children[name] = found
    return slots.children[name]


class Start:
    """A start tag without a fault: the name of its element, its attributes, its places, and the number of its event."""

    def __init__(self, name, attributes, place, last, number):
        self.name = name
        self.attributes = attributes
        self.place = place
        self.last = last
        self.number = number


class Row:
    """What is kept of a row of whole tokens, as far as it was read."""

    def __init__(self, slots):
        self.slots = slots
        # The end tags that end no element, as tuples (segment before, fragment, number), and the start
        # tags that are not ended, as tuples (segment before, start).
        self.ups = []
        self.downs = []
        # The segment at the end.
        self.segment = (slots.same, NOTHING_OUTSIDE)
        # The places of the first letters of the elements at which the row gets higher than before.
        self.heights = []
        self.events = 0
        # The place of the first fault, -1 if there is none; nothing behind it is kept.
        self.fault = -1
        # True if the last token was a sign: by a further one the table is not changed.
        self.is_signed = False


def copied_row(row):
    """A new row that is the same."""
    other = Row(row.slots)
    other.ups = list(row.ups)
    other.downs = list(row.downs)
    other.segment = row.segment
    other.heights = list(row.heights)
    other.events = row.events
    other.fault = row.fault
    return other


def row_form(row):
    """The row as a plain value, which is as long for each row of the same tags that are not matched."""
    ups = [(segment_form(segment), fragment, number) for segment, fragment, number in row.ups]
    downs = [(segment_form(segment), (start.name, start.attributes, start.place, start.last, start.number))
             for segment, start in row.downs]
    return tuple(ups), tuple(downs), segment_form(row.segment), tuple(row.heights), row.events, row.fault


def segment_form(segment):
    """The segment as a plain value; what is not there is told by numbers less than 0."""
    table, outer = segment
    told = tuple([slot if isinstance(slot, tuple) else (-1, slot) for slot in table])
    if outer is None:
        return told, None
    sign, signs, ahead, letters, fault = outer
    return told, (sign, signs, ahead, (letters + (-1, -1))[:2], (-1, -1) if fault is None else fault)


def table_behind(first, second):
    """The table of the children of both, one behind the other."""
    return tuple([slot if isinstance(slot, tuple) else second[slot] for slot in first])


def outer_behind(first, second):
    """What matters outside of the root of the children of both, one behind the other."""
    if first is None:
        return None
    sign, signs, ahead, letters, fault = first
    other_sign, other_signs, other_ahead, other_letters, other_fault = second
    if not letters:
        ahead = signs + other_ahead
        fault = other_fault
    return sign if sign >= 0 else other_sign, signs + other_signs, ahead, (letters + other_letters)[:2], fault


def add_segment(row, segment):
    """Puts a segment behind what is there."""
    table, outer = row.segment
    row.segment = (table_behind(table, segment[0]), outer_behind(outer, segment[1]))


def add_token(row, marks):
    """Puts a whole token, a list of tuples (place, byte), behind what is there."""
    place, byte = marks[0]
    second = marks[1][1] if len(marks) > 1 else 0
    if byte == LESS and second == SLASH:
        row.is_signed = False
        add_end(row, fragment_of("text", marks), row.events)
    elif byte == LESS and second == BANG:
        row.fault = read_fragment(["a"], marks)[0]
    elif byte == LESS:
        row.is_signed = False
        add_start(row, marks)
    elif byte == AND:
        row.fault = read_fragment(["a"], marks)[0]
        add_sign(row, place, marks[-1][0], False)
    elif sign_of(byte) == "":
        row.fault = place
    else:
        add_sign(row, place, place, byte in BLANK_BYTES)
    if row.fault >= 0:
        row.events = 0


def add_sign(row, place, last, is_blank):
    """Puts a sign behind what is there; the entity of it may have a fault, which counts but outside of the root."""
    table, outer = row.segment
    if row.fault < 0 and not row.is_signed:
        slots = row.slots
        signed = [(last, row.events) if slots.behind_sign[slot] < 0 else slots.behind_sign[slot]
                  for slot in slots.same]
        table = table_behind(table, signed)
        row.is_signed = True
    outer = outer_behind(outer, (-1 if is_blank else place, 1, 1, (), None))
    row.segment = (table, outer)
    row.events += 1


def add_start(row, marks):
    """Puts a start tag behind what is there, or a whole element if the tag is one."""
    place = marks[0][0]
    fault, events = read_fragment(["a"], marks)
    row.fault = fault
    if fault == place + 1:
        return
    height = len(row.downs) - len(row.ups) + 1
    if height > len(row.heights) and len(row.heights) < MOST_DEPTH + 1 - len(row.ups):
        row.heights.append(place + 1)
    if fault >= 0:
        table, outer = row.segment
        row.segment = (table, outer_behind(outer, (-1, 0, 0, (place + 1,), None)))
        return
    _, name, attributes = events[0]
    start = Start(name, tuple([key for key, _ in attributes]), place, marks[-1][0], row.events)
    open_start(row, start)
    row.events += 1
    if len(events) > 1:
        close_start(row, start.last, row.events)
        row.events += 1


def open_start(row, start):
    """Begins with the children of a start tag."""
    row.downs.append((row.segment, start))
    row.segment = (row.slots.same, None)


def close_start(row, last, number):
    """Ends the last element that is not ended, at this place, by the event with this number."""
    inner = row.segment[0]
    row.segment, start = row.downs.pop()
    slots = row.slots
    ends = {kind: end_of(slots, kind, start, inner, last, number) for kind in slots.firsts}
    table = []
    for found in children_by(slots, start.name):
        fault = (start.last, start.number) if found is None else ends[found[0]]
        table.append(found[1] if fault is None else fault)
    root = slots.grammar.root
    fault = ends[root] if start.name == slots.grammar.name_of(root) else (start.last, start.number)
    add_segment(row, (tuple(table), (-1, 0, 0, (start.place + 1,), fault)))


def end_of(slots, kind, start, inner, last, number):
    """The event at which an element is none of the type, but for its name, or None."""
    if has_attribute_fault(slots, kind, start):
        return start.last, start.number
    slot = inner[slots.firsts[kind]]
    if isinstance(slot, tuple):
        return slot
    return None if slots.grammar.is_final(kind, slots.rows[slot][1]) else (last, number)


def has_attribute_fault(slots, kind, start):
    return attribute_fault(slots.grammar, kind, [(name, "") for name in start.attributes]) != ""


def add_end(row, fragment, number):
    """Puts an end tag behind what is there; its event has this number."""
    if row.downs:
        row.fault, _ = read_fragment(["a", row.downs[-1][1].name], fragment)
        if row.fault < 0:
            close_start(row, fragment[-1][0], number)
    else:
        row.ups.append((row.segment, fragment, number))
        row.segment = (row.slots.same, NOTHING_OUTSIDE)
    row.events += 1


def shifted_fault(fault, places, numbers):
    return (fault[0] + places, fault[1] + numbers) if isinstance(fault, tuple) else fault


def shifted_segment(segment, places, numbers):
    """The segment with places and numbers that are greater by so many."""
    table, outer = segment
    table = tuple([shifted_fault(slot, places, numbers) for slot in table])
    if outer is None:
        return table, None
    sign, signs, ahead, letters, fault = outer
    letters = tuple([letter + places for letter in letters])
    return table, (sign if sign < 0 else sign + places, signs, ahead, letters, shifted_fault(fault, places, numbers))


def joined_rows(first, second, places):
    """The row of both, one behind the other; the places of the second one are greater by so many."""
    row = copied_row(first)
    if row.fault >= 0:
        return row
    numbers = first.events
    for segment, fragment, number in second.ups:
        add_segment(row, shifted_segment(segment, places, numbers))
        add_end(row, shifted(fragment, places), number + numbers)
        if row.fault >= 0:
            break
    if row.fault < 0:
        for segment, start in second.downs:
            add_segment(row, shifted_segment(segment, places, numbers))
            open_start(row, Start(start.name, start.attributes, start.place + places, start.last + places,
                                  start.number + numbers))
        add_segment(row, shifted_segment(second.segment, places, numbers))
        row.fault = second.fault if second.fault < 0 else second.fault + places
    row.events = numbers + second.events if row.fault < 0 else 0
    add_heights(row, first, [place + places for place in second.heights])
    return row


def add_heights(row, first, heights):
    """Puts the places at which the second row gets higher behind those of the first one."""
    ahead = len(first.heights) - (len(first.downs) - len(first.ups))
    for place in heights[max(0, ahead):]:
        if len(row.heights) < MOST_DEPTH + 1 - len(first.ups) and (row.fault < 0 or place < row.fault):
            row.heights.append(place)
