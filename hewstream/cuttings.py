"""Texts that are read in pieces, each apart, whose parts are joined in any order."""

from hewstream.errors import BadByte, NotValid, TooDeep
from hewstream.fragments import fragment_of, shifted
from hewstream.tagrows import Row, Slots, add_token, children_by, copied_row, has_attribute_fault, joined_rows, row_form
from hewstream.tokens import MOST_DEPTH, Tokens, between_tokens, is_integer
from hewstream.validator import Validator

STATES = ("text", "less", "bang", "bangs", "comment", "dash", "dashes", "tag", "value", "entity")
# By the states what single bytes lead to, and what all others lead to.
STEPS = {
    "text": ((60, "less"), (38, "entity")),
    "less": ((33, "bang"),),
    "bang": (),
    "bangs": (),
    "comment": ((45, "dash"),),
    "dash": ((45, "dashes"),),
    "dashes": (),
    "tag": ((34, "value"), (62, "text")),
    "value": ((34, "tag"),),
    "entity": ((59, "text"),),
}
OTHERS = {
    "text": "text",
    "less": "tag",
    "bang": "bangs",
    "bangs": "comment",
    "comment": "comment",
    "dash": "comment",
    "dashes": "text",
    "tag": "tag",
    "value": "value",
    "entity": "entity",
}


def next_state(state, byte):
    """The state behind a byte."""
    for single, behind in STEPS[state]:
        if byte == single:
            return behind
    return OTHERS[state]


class Part:
    """What is kept of a piece of a text, a list of bytes."""

    def __init__(self, grammar, data):
        if not are_bytes(data):
            raise NotValid()
        self.slots = Slots(grammar)
        self.many = len(data)
        # By the states in which the piece may begin what is read from there.
        self.readings = {}
        marks = list(enumerate(data))
        known = {}
        for state in STATES:
            self.readings[state] = read_from(self.slots, state, marks, known)

    def form(self):
        """The part as a plain value."""
        return self.many, tuple([reading_form(self.readings[state]) for state in STATES])

    def width(self):
        """The numbers of end tags and start tags that are not matched, and of the bytes of a last token."""
        reading = self.readings["text"]
        return len(reading.row.ups), len(reading.row.downs), reading.many


class Reading:
    """What is read of a piece that begins in some state."""

    def __init__(self, head, row, tail, many, behind):
        # The bytes that end the token that was begun before, or all of them if none ends; then the row is None.
        self.head = head
        self.row = row
        # The bytes of a last token that is not ended, their number, and the state behind them.
        self.tail = tail
        self.many = many
        self.behind = behind


def are_bytes(value):
    return isinstance(value, list) and all([is_integer(byte) for byte in value])


def reading_form(reading):
    row = None if reading.row is None else row_form(reading.row)
    return reading.head, row, reading.tail, reading.many, reading.behind


def read_from(slots, state, marks, known):
    """What is read of the tuples (place, byte) from a state on.

    Known has what is read of whole tokens from places on.
    """
    at = 0
    behind = state
    while at < len(marks) and behind != "text":
        behind = next_state(behind, marks[at][1])
        at += 1
    if behind != "text":
        return Reading(fragment_of(state, marks), None, (), 0, behind)
    if at not in known:
        known[at] = read_tokens(slots, marks, at)
    row, tail, many, behind = known[at]
    return Reading(fragment_of(state, marks[:at]), row, tail, many, behind)


def read_tokens(slots, marks, at):
    """The row of the tokens from the place on, and the fragment, its number of bytes and the state behind it."""
    row = Row(slots)
    while at < len(marks):
        begin = at
        state = next_state("text", marks[at][1])
        at += 1
        while state != "text" and at < len(marks):
            state = next_state(state, marks[at][1])
            at += 1
        if state != "text":
            return row, fragment_of("text", marks[begin:]), at - begin, state
        add_token(row, marks[begin:at])
        if row.fault >= 0:
            break
    return row, (), 0, "text"


def join_parts(left, right):
    """The part of both pieces, one behind the other."""
    part = Part(left.slots.grammar, [])
    part.many = left.many + right.many
    for state in STATES:
        reading = left.readings[state]
        part.readings[state] = joined(state, reading, right.readings[reading.behind], left.many, right.many)
    return part


def joined(state, first, second, places, many):
    """What is read of both pieces; the second one has so many bytes, and its places are greater by so many."""
    head = shifted(second.head, places)
    tail = shifted(second.tail, places)
    if first.row is None:
        head = fragment_of(state, first.head + head)
        if second.row is None:
            return Reading(head, None, (), 0, second.behind)
        row = joined_rows(Row(second.row.slots), second.row, places)
        return Reading(head, row, tail, second.many, second.behind)
    if first.row.fault >= 0:
        return first
    if second.row is None:
        return Reading(first.head, first.row, fragment_of("text", first.tail + head), first.many + many, second.behind)
    row = first.row
    if first.tail:
        row = copied_row(first.row)
        add_token(row, list(first.tail + head))
    row = joined_rows(row, second.row, places)
    if row.fault >= 0:
        return Reading(first.head, row, (), 0, "text")
    return Reading(first.head, row, tail, second.many, second.behind)


def tell_text(part):
    """What one run tells of the text that the piece is."""
    reading = part.readings["text"]
    row = reading.row
    _, outer = first_segment(row)
    found = row_faults(row)
    if row.fault < 0:
        names = [start.name for _, start in row.downs]
        place, answer = end_fault(names, len(outer[3]) > 0, reading.tail, part.many)
        if answer != "":
            found.append((place, (answer, place)))
    if found:
        return min(found)[1]
    return "valid", row.events - outer[1]


def first_segment(row):
    """The segment at the beginning of a row."""
    if row.ups:
        return row.ups[0][0]
    return row.downs[0][0] if row.downs else row.segment


def row_faults(row):
    """The list of the tuples (place, what is told) of faults of a row at the beginning of a text.

    Of several kinds of faults the first one stands there. What is wrong only because of a fault
    stands behind this one.
    """
    sign, signs, ahead, letters, event = first_segment(row)[1]
    places = [place for place in (sign, row.fault) if place >= 0]
    places.extend(letters[1:])
    if row.ups:
        places.append(row.ups[0][1][0][0] + 1)
    elif row.downs and letters:
        places.append(row.downs[0][1].place + 1)
    found = [(place, ("byte", place)) for place in places]
    if event is not None:
        found.append((event[0], ("event", event[1] - ahead)))
    if row.downs and not row.ups:
        event = open_fault(row)
        if event is not None:
            found.append((event[0], ("event", event[1] - signs)))
    if len(row.heights) > MOST_DEPTH:
        found.append((row.heights[MOST_DEPTH], ("deep", row.heights[MOST_DEPTH])))
    return found


def open_fault(row):
    """The first event that cannot come of the elements that are not ended, the first one being the root; or None."""
    slots = row.slots
    tables = [table for (table, _), _ in row.downs[1:]] + [row.segment[0]]
    kind = slots.grammar.root
    slot = -1
    for (_, start), table in zip(row.downs, tables):
        if slot >= 0:
            found = children_by(slots, start.name)[slot]
            kind = None if found is None else found[0]
        elif start.name != slots.grammar.name_of(kind):
            kind = None
        if kind is None or has_attribute_fault(slots, kind, start):
            return start.last, start.number
        slot = table[slots.firsts[kind]]
        if isinstance(slot, tuple):
            return slot
    return None


def end_fault(names, has_root, tail, many):
    """The place of the fault of a last token, or of a text that ends too early, and its kind; "" if there is none."""
    tokens = Tokens()
    tokens.names = names
    tokens.ended = has_root and not names
    tokens.reading = between_tokens(tokens)
    for place, byte in tail:
        tokens.place = place
        try:
            tokens.feed([byte])
        except BadByte:
            return place, "byte"
        except TooDeep:
            return place, "deep"
    return many, "" if tokens.ended and not tail else "byte"


def run_text(grammar, data):
    """What one run tells of a text, a list of bytes."""
    if not are_bytes(data):
        raise NotValid()
    tokens = Tokens()
    validator = Validator(grammar)
    number = 0
    try:
        for byte in data:
            for event in tokens.feed([byte]):
                if validator.take(event) != "":
                    return "event", number
                number += 1
        tokens.close()
    except BadByte as wrong:
        return "byte", wrong.place
    except TooDeep as deep:
        return "deep", deep.place
    return "valid", number
