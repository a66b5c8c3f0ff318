"""Documents, trees and outputs, and their printed form."""

from hewstream.errors import NotValid
from hewstream.tokens import BLANKS, MOST_ATTRIBUTES, PRINTED, is_name


def is_sign(value):
    """True if the value is a sign; it may be anything."""
    return isinstance(value, str) and len(value) == 1 and (value in PRINTED or value in BLANKS)


def is_signs(value):
    """True if the value is a string of signs, perhaps of none."""
    return isinstance(value, str) and all([is_sign(sign) for sign in value])


def is_tuple(value, length):
    """True if the value is a tuple of this length."""
    return isinstance(value, tuple) and len(value) == length


def ascends(names):
    """True if the names stand in ascending order, each once."""
    return all([low < high for low, high in zip(names, names[1:])])


def is_attributes(value):
    """True if the value can be the attributes of a start event."""
    if not isinstance(value, tuple) or len(value) > MOST_ATTRIBUTES:
        return False
    if not all([is_tuple(pair, 2) and is_name(pair[0]) and is_signs(pair[1]) for pair in value]):
        return False
    return ascends([name for name, _ in value])


def is_tree(value):
    """True if the value is a tree; it may be anything."""
    if not isinstance(value, tuple):
        return False
    todo = [value]
    while todo:
        part = todo.pop()
        if is_tuple(part, 3):
            name, attributes, children = part
            if not is_name(name) or not is_attributes(attributes) or not isinstance(children, tuple):
                return False
            todo.extend(children)
        elif not is_sign(part):
            return False
    return True


def is_document(value):
    """True if the value is a list that is a document; it may be anything."""
    if not isinstance(value, list):
        return False
    names = []
    for number, event in enumerate(value):
        if not names and number > 0:
            return False
        if is_start(event):
            names.append(event[1])
        elif is_end(event):
            if not names or names.pop() != event[1]:
                return False
        elif not is_char(event) or not names:
            return False
    return len(value) > 0 and not names


def is_start(value):
    """True if the value is a start event."""
    return is_event(value, "start", 3) and is_name(value[1]) and is_attributes(value[2])


def is_char(value):
    """True if the value is the event of a sign."""
    return is_event(value, "char", 2) and is_sign(value[1])


def is_end(value):
    """True if the value is an end event."""
    return is_event(value, "end", 2) and is_name(value[1])


def are_events(rows):
    """True if all of the values are input events."""
    return all([is_start(event) or is_char(event) or is_end(event) for event in rows])


def is_output_event(value):
    """True if the value is an output event."""
    if is_event(value, "signs", 2):
        return is_signs(value[1]) and value[1] != ""
    return is_start(value) or is_char(value) or is_end(value)


def is_event(value, kind, length):
    return is_tuple(value, length) and isinstance(value[0], str) and value[0] == kind


def children_in(events):
    """How many elements and signs stand in a row of whole ones; -1 if it is none."""
    many = 0
    names = []
    for event in events:
        if event[0] != "end" and not names:
            many += 1
        if event[0] == "start":
            names.append(event[1])
        elif event[0] == "end" and (not names or names.pop() != event[1]):
            return -1
    return -1 if names else many


def tree_of(document):
    """The tree of a document."""
    if not is_document(document):
        raise NotValid()
    # The children of each open element, behind those of the ones around it; below all, the root.
    rows = [[]]
    starts = []
    for event in document:
        if event[0] == "start":
            starts.append(event)
            rows.append([])
        elif event[0] == "char":
            rows[-1].append(event[1])
        else:
            _, name, attributes = starts.pop()
            children = rows.pop()
            rows[-1].append((name, attributes, tuple(children)))
    return rows[0][0]


def events_of(tree):
    """The document of a tree."""
    events = []
    # What is still to be told: trees, signs, and end events, which are tuples of two.
    todo = [tree]
    while todo:
        part = todo.pop()
        if isinstance(part, str):
            events.append(("char", part))
        elif len(part) == 2:
            events.append(part)
        else:
            name, attributes, children = part
            events.append(("start", name, attributes))
            todo.append(("end", name))
            todo.extend(children[::-1])
    return events


def document_events(output):
    """The document events of an output: a char for each sign of its strings."""
    events = []
    for event in output:
        if event[0] == "signs":
            events.extend([("char", sign) for sign in event[1]])
        else:
            events.append(event)
    return events


def print_output(output):
    """The list of the bytes of the printed form of an output."""
    words = []
    # The name of the start tag that has no ">" yet, or None.
    begun = None
    for event in output:
        if event[0] == "end" and begun == event[1]:
            words.append("/>")
            begun = None
            continue
        if begun is not None:
            words.append(">")
            begun = None
        if event[0] == "start":
            begun = event[1]
        words.append(printed_event(event))
    if begun is not None:
        words.append(">")
    return [ord(sign) for sign in "".join(words)]


def printed_event(event):
    """The text of an event, of a start tag without its last sign."""
    if event[0] == "start":
        return "<" + event[1] + "".join([printed_attribute(name, value) for name, value in event[2]])
    if event[0] == "end":
        return "</" + event[1] + ">"
    return printed_signs(event[1])


def printed_attribute(name, value):
    return " " + name + "=\"" + printed_signs(value).replace("\"", "&quot;") + "\""


def printed_signs(signs):
    return signs.replace("&", "&amp;").replace("<", "&lt;").replace(">", "&gt;")
