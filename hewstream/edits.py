"""Documents that change, and their outputs, which are kept up."""

from hewstream.errors import NotValid, TooMany
from hewstream.events import are_events, children_in, is_document, is_tuple
from hewstream.patches import apply_patch, undo_patch
from hewstream.plain import is_use, nodes_in, pieces_of
from hewstream.programs import body_of, is_fitting, settled
from hewstream.tokens import is_integer
from hewstream.validator import validate

MOST_STANDING = 5000


class Edited:
    """A document with the output of a program, and all that it was before its edits."""

    def __init__(self, grammar, program, document):
        if not is_fitting(program, grammar) or not is_document(document) or not is_valid(grammar, document):
            raise NotValid()
        self.grammar = grammar
        self.program = program
        # The settled rules, by tuples (key, mode), and how often one was settled.
        self.bodies = {}
        self.many_settled = 0
        # The moments before the edits that were not taken back.
        self.past = []
        self.now = Moment([], 0)
        self.now = moment_behind(self, keyed(document, 0))
        self.many_settled = self.now.made

    def edit(self, rows):
        """Makes an edit, a list of exchanges; the patch of the output, or None if the edit is refused."""
        before = self.now
        marks = marks_behind(before, rows)
        if not is_valid(self.grammar, [event for event, _ in marks]):
            return None
        self.now = moment_behind(self, marks)
        self.past.append(before)
        self.many_settled += self.now.made
        return patch_between(before, self.now)

    def back(self):
        """Takes the last edit back; the patch of the output, or None if there is none."""
        if not self.past:
            return None
        behind = self.now
        self.now = self.past.pop()
        return undo_patch(patch_between(self.now, behind), self.now.told)

    def document(self):
        """The list of the events now."""
        return [event for event, _ in self.now.marks]

    def node_keys(self):
        """The list of the keys of the nodes of these events."""
        return [key for _, key in self.now.marks]

    def output(self):
        """The list of the tuples (output event, key)."""
        return list(self.now.told)

    def settled(self):
        """How many bodies were settled so far."""
        return self.many_settled


class Moment:
    """A document as it is between two edits."""

    def __init__(self, marks, free):
        # The tuples (event, key of its node), and the key that is given next.
        self.marks = marks
        self.free = free
        # The output, and how many bodies were settled for it.
        self.told = []
        self.made = 0


def is_valid(grammar, document):
    return validate(grammar, document) == (-1, "")


def keyed(events, free):
    """The tuples (event, key) of a row of whole elements and signs, whose keys begin with this one."""
    marks = []
    around = []
    for event in events:
        if event[0] == "end":
            marks.append((event, around.pop()))
            continue
        marks.append((event, free))
        if event[0] == "start":
            around.append(free)
        free += 1
    return marks


def marks_behind(moment, value):
    """The tuples (event, key) of the document behind an edit, which may be anything."""
    if not isinstance(value, list) or not all([is_exchange(row) for row in value]):
        raise NotValid()
    pieces = []
    free = moment.free
    ends = ends_in(moment.marks)
    for path, index, many, children in value:
        begin, end = (0, len(ends)) if path is None else place_of(ends, path, index, many)
        new = keyed(children, free)
        free += len([event for event in children if event[0] != "end"])
        pieces.append((begin, end, new))
    pieces = sorted(pieces, key=begin_of)
    # Where nothing stays between two pieces there is no child between, or one of them stands in the other one.
    if not all([one[1] < other[0] for one, other in zip(pieces, pieces[1:])]):
        raise NotValid()
    return apply_patch(pieces, moment.marks)


def begin_of(piece):
    return piece[0]


def is_exchange(value):
    """True if the value has the form of an exchange."""
    if not is_tuple(value, 4) or not is_integer(value[1]) or not is_integer(value[2]) or not isinstance(value[3], list):
        return False
    path, index, many, children = value
    if path is None:
        return index == 0 and many == 1 and is_document(children)
    if not isinstance(path, tuple) or not all([is_integer(number) and number >= 0 for number in path]):
        return False
    return index >= 0 and many >= 0 and are_events(children) and children_in(children) >= 0


def ends_in(marks):
    """For each place in the document the place where the element or sign that begins there ends, else -1."""
    ends = []
    around = []
    for place, (event, _) in enumerate(marks):
        ends.append(place if event[0] == "char" else -1)
        if event[0] == "start":
            around.append(place)
        elif event[0] == "end":
            ends[around.pop()] = place
    return ends


def place_of(ends, path, index, many):
    """The place where so many children from the index on begin, and the one behind them."""
    begin = 0
    for number in path:
        children = children_of(ends, begin)
        if number >= len(children) or ends[children[number]] == children[number]:
            raise NotValid()
        begin = children[number]
    children = children_of(ends, begin) + [ends[begin]]
    if index + many >= len(children):
        raise NotValid()
    return children[index], children[index + many]


def children_of(ends, begin):
    """The list of the places of the children of the element that begins there."""
    found = []
    place = begin + 1
    while place < ends[begin]:
        found.append(place)
        place = ends[place] + 1
    return found


def moment_behind(edited, marks):
    """The moment in which the document has become this one; new nodes have keys that were free before."""
    free = edited.now.free
    moment = Moment(marks, max([key for _, key in marks] + [free - 1]) + 1)
    nodes = nodes_in(edited.grammar, marks, edited.grammar.root)
    first = marks[0][1]
    used = {first: [edited.program["start"]]}
    many = 1
    for key, node in nodes.items():
        inner = {}
        modes = used.get(key, [])
        for mode in modes:
            if key >= free:
                body = body_of(edited.program, mode, node.kind)
                edited.bodies[key, mode] = settled(body, node.attributes)
                moment.made += 1
            if mode not in inner:
                inner[mode] = uses_of(edited.bodies[key, mode], node)
            many += len(inner[mode])
            if many > MOST_STANDING:
                raise TooMany()
            for child, lane in inner[mode]:
                used.setdefault(child, []).append(lane)
    moment.told = told_by(edited, nodes, first)
    return moment


def uses_of(parts, node):
    """The list of the tuples (key, mode) of the frames that the children get in a frame with these parts."""
    found = []
    for part in parts:
        if part[0] == "lane":
            found.extend([(key, part[1]) for symbol, key, _ in node.children
                          if symbol != "char" and symbol in part[2]])
    return found


def told_by(edited, nodes, first):
    """The output of a document whose root has this key."""
    told = []
    pieces = {}
    todo = [(first, edited.program["start"])]
    while todo:
        piece = todo.pop()
        if not is_use(piece):
            told.append(piece)
            continue
        if piece not in pieces:
            key = piece[0]
            pieces[piece] = pieces_of(edited.program, edited.bodies[piece], key, nodes[key])[::-1]
        todo.extend(pieces[piece])
    return told


def patch_between(before, behind):
    """The patch that takes out of the output what has a key that has gone, and puts in what has a new one."""
    stays = {key: True for _, key in behind.marks}
    pieces = []
    at = 0
    place = 0
    while at < len(before.told) or place < len(behind.told):
        begin = at
        while at < len(before.told) and before.told[at][1] not in stays:
            at += 1
        new = []
        while place < len(behind.told) and behind.told[place][1] >= before.free:
            new.append(behind.told[place])
            place += 1
        if begin < at or new:
            pieces.append((begin, at, new))
        at += 1
        place += 1
    return pieces
