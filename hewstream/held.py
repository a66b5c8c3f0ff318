"""Machines that are held as bytes, and made anew from them."""

from hewstream.automata import states_of
from hewstream.errors import BadByte, NotValid
from hewstream.events import is_attributes, is_output_event, is_tuple
from hewstream.machine import ROOT, Element, Machine, Spot, add_frame, leaving, put_before, settle_lanes, takers
from hewstream.tokens import is_integer, sign_of
from hewstream.validator import attribute_fault

MOST_DIGITS = 9
DIGITS = "0123456789"


def write_word(value):
    """The list of the bytes of the word of a value."""
    words = []
    # What is still to be written: tuples (True, string as it is) and (False, value).
    todo = [(False, value)]
    while todo:
        is_written, part = todo.pop()
        if is_written:
            words.append(part)
        elif part is None:
            words.append("o")
        elif isinstance(part, str):
            words.append("t" + str(len(part)) + ":" + part)
        elif isinstance(part, int):
            words.append("n" + str(part) + ";")
        else:
            words.append("(")
            todo.append((True, ")"))
            todo.extend([(False, inner) for inner in part[::-1]])
    return [ord(sign) for sign in "".join(words)]


def read_word(data):
    """The value of a word, a list of bytes."""
    if not isinstance(data, list) or not all([is_integer(byte) for byte in data]):
        raise NotValid()
    # The parts of the tuples that are being read, the outermost first; below all, the whole word.
    rows = [[]]
    at = 0
    while len(rows) > 1 or not rows[0]:
        sign = sign_at(data, at)
        if sign == "(":
            rows.append([])
            at += 1
        elif sign == ")" and len(rows) > 1:
            part = tuple(rows.pop())
            rows[-1].append(part)
            at += 1
        else:
            value, at = read_simple(data, at, sign)
            rows[-1].append(value)
    if at < len(data):
        raise BadByte(at)
    return rows[0][0]


def sign_at(data, at):
    """The sign of the byte at the place, or "" if it is none."""
    if at >= len(data):
        raise BadByte(at)
    return sign_of(data[at])


def read_simple(data, at, sign):
    """The value that is no tuple and begins with this sign at the place, and the place behind it."""
    if sign == "o":
        return None, at + 1
    if sign == "n":
        return read_number(data, at + 1, ";")
    if sign != "t":
        raise BadByte(at)
    many, at = read_number(data, at + 1, ":")
    signs = []
    while len(signs) < many:
        sign = sign_at(data, at)
        if sign == "":
            raise BadByte(at)
        signs.append(sign)
        at += 1
    return "".join(signs), at


def read_number(data, at, end):
    """The number whose digits begin at the place, and the place behind the sign at its end."""
    digits = ""
    while True:
        sign = sign_at(data, at)
        if sign == end and digits != "":
            return int(digits), at + 1
        if sign == "" or sign not in DIGITS or digits == "0" or len(digits) == MOST_DIGITS:
            raise BadByte(at)
        digits += sign
        at += 1


def hold(machine):
    """The bytes of the held form of a machine."""
    rows = [(element.kind, element.attributes, element.place, element.state) for element in machine.around]
    places = first_parts(machine)
    come = come_into_lanes(machine)
    inner = {}
    for element in machine.around[::-1]:
        inner = {frame.where: held_form(frame, places[frame], come, inner) for frame in element.used}
    return write_word((machine.taken, tuple(rows), inner.get(ROOT)))


def held_form(frame, place, come, inner):
    """The held form of a frame; inner has those of the frames of the open child."""
    lanes = []
    for index, row in enumerate(frame.use.rows):
        if row[0] == "lane":
            lanes.append((tuple(come.get((frame, index), [])), inner.get((frame, index))))
    return place, tuple(lanes)


def first_parts(machine):
    """A dict from all frames of open elements to the index of their first part that has not left wholly."""
    first = machine.limit.behind
    # The frames around the first live lane, with the indexes of the lanes in which it stands.
    around = {}
    frame, index = first.frame, first.index
    while frame is not None:
        around[frame] = index
        frame, index = frame.where
    places = {}
    # The other frames that stand ahead of the first live lane.
    ahead = {None: True}
    for element in machine.around:
        for frame in element.used:
            outer, index = frame.where
            if frame not in around and (outer in ahead or (outer in around and index <= around[outer])):
                ahead[frame] = True
            places[frame] = around.get(frame, len(frame.use.rows) if frame in ahead else 0)
    return places


def come_into_lanes(machine):
    """A dict from tuples (frame of an open element, index of a lane) to what has come there and has not left."""
    come = {}
    spot = machine.limit.behind
    while spot.frame is not None:
        if spot.written is not None and not is_own(spot):
            frame, index = spot.frame, spot.index
            while frame.element.has_ended:
                frame, index = frame.where
            come.setdefault((frame, index), []).append(spot.written)
        spot = spot.behind
    return come


def is_own(spot):
    """True if what is written is an event of the frame of an open element itself."""
    return not spot.frame.element.has_ended and spot.frame.use.rows[spot.index][0] == "event"


def resume(grammar, program, data):
    """The machine that is held as these bytes."""
    value = read_word(data)
    machine = Machine(grammar, program)
    if not is_held(grammar, value):
        raise NotValid()
    number, rows, form = value
    machine.taken = number
    machine.validator.begun = number > 0
    forms = [form]
    for row, child in zip(rows, [row[0] for row in rows[1:]] + [""]):
        open_again(machine, row)
        forms = fill_again(machine, forms, child)
    for element in machine.around:
        settle_lanes(machine, element)
    # What stands ahead of the first live lane has left before.
    leaving(machine)
    machine.many_kept = kept_in(machine)
    # A word that tells otherwise what has left is not that of this machine.
    if hold(machine) != data:
        raise NotValid()
    return machine


def is_held(grammar, value):
    """True if a value of a word can be a held form, the frames not looked at."""
    if not is_tuple(value, 3) or not isinstance(value[0], int) or not isinstance(value[1], tuple):
        return False
    number, rows, form = value
    if not rows:
        return number != 1 and form is None
    if not all([is_row(grammar, row) for row in rows]) or rows[0][0] != grammar.root or rows[0][2] != 0:
        return False
    kinds = [row[0] for row in rows]
    places = [row[2] for row in rows] + [number]
    if not all([low < high for low, high in zip(places, places[1:])]):
        return False
    for kind, child, state in zip(kinds, kinds[1:], [row[3] for row in rows]):
        if not any([edge[1] == child and edge[2] == state for edge in grammar.automaton(kind)[1]]):
            return False
    return rows[-1][3] < states_of(grammar.automaton(kinds[-1]))


def is_row(grammar, value):
    """True if a value of a word can be the row of an open element."""
    if not is_tuple(value, 4) or not isinstance(value[0], str) or value[0] not in grammar.types():
        return False
    kind, attributes, place, state = value
    if not is_attributes(attributes) or attribute_fault(grammar, kind, attributes) != "":
        return False
    return isinstance(place, int) and isinstance(state, int)


def open_again(machine, row):
    """Opens an element with its frames."""
    kind, attributes, place, state = row
    element = Element(kind, attributes, place)
    element.state = state
    if machine.around:
        for parent in machine.around[-1].used:
            for index in takers(parent.use, kind):
                add_frame(machine, element, parent.use.rows[index][1], (parent, index), parent.ends[index])
    else:
        add_frame(machine, element, machine.facts.program["start"], ROOT, machine.limit)
    machine.around.append(element)
    machine.validator.kinds.append(kind)
    machine.validator.at.append(state)


def fill_again(machine, forms, child):
    """Puts what has come into the lanes of the frames of the open element, which have these forms.

    Returns the list of the forms of the frames of its child, whose type is "" if there is none.
    """
    found = []
    for frame, form in zip(machine.around[-1].used, forms):
        lanes = [index for index, row in enumerate(frame.use.rows) if row[0] == "lane"]
        if not is_form(form, len(lanes), machine.taken):
            raise NotValid()
        for index, (events, inner) in zip(lanes, form[1]):
            if (inner is not None) != (child in frame.use.rows[index][2]):
                raise NotValid()
            if inner is not None:
                found.append(inner)
            for written in events:
                put_before(Spot(written, frame, index), frame.ends[index])
    return found


def is_form(value, many, number):
    """True if a value of a word can be the form of a frame with so many lanes, the inner ones not looked at."""
    if not is_tuple(value, 2) or not isinstance(value[0], int) or not is_tuple(value[1], many):
        return False
    return all([is_tuple(lane, 2) and is_come(lane[0], number) for lane in value[1]])


def is_come(value, number):
    """True if a value of a word can be what has come into a lane, behind so many events of the document."""
    if not isinstance(value, tuple):
        return False
    return all([is_tuple(row, 2) and is_output_event(row[0]) and isinstance(row[1], int) and row[1] < number
                for row in value])


def kept_in(machine):
    """How much is written and has not left."""
    many = 0
    spot = machine.limit.behind
    while spot.frame is not None:
        if spot.written is not None and (not is_own(spot) or spot.index < spot.frame.use.first):
            many += 1
        spot = spot.behind
    return many
