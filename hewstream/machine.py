"""The machine: lets each output event leave as early as any continuation allows."""

from hewstream.errors import NotDocument, NotValid, TooMany
from hewstream.facts import Facts
from hewstream.programs import is_fitting
from hewstream.validator import Validator

MOST_FRAMES = 1000
# Where the frame of the root stands: in no frame, in no part of one.
ROOT = (None, -1)


class Machine:
    """Reads one document event by event."""

    def __init__(self, grammar, program, facts=None):
        if not is_fitting(program, grammar):
            raise NotValid()
        self.facts = Facts(grammar, program) if facts is None else facts
        self.validator = Validator(grammar)
        self.taken = 0
        # The open elements, the root first.
        self.around = []
        # Stands behind the last spot of the output, and before the first one.
        self.limit = Spot(None, None, -1)
        self.limit.before = self.limit
        self.limit.behind = self.limit
        self.many_frames = 0
        self.many_kept = 0

    def event(self, event):
        """Takes an input event; the list of the tuples (output event, place) that leave with it."""
        if self.validator.take(event) != "":
            raise NotDocument(self.taken)
        if event[0] == "start":
            begin_element(self, event)
        elif event[0] == "char":
            take_sign(self, event)
        else:
            end_element(self)
        self.taken += 1
        return leaving(self)

    def kept(self):
        """The number of events that are written and have not left."""
        return self.many_kept

    def shape(self):
        """The tuple (elements, frame) of what is open."""
        inner = {}
        for element in self.around[::-1]:
            inner = {frame.where: form_of(frame, inner) for frame in element.used}
        return tuple([(element.kind, element.state) for element in self.around]), inner.get(ROOT)

    def frames(self):
        """The number of the frames of all open elements."""
        return self.many_frames

    def depth(self):
        """The number of the open elements."""
        return len(self.around)

    def wholly(self):
        """True if the root has ended."""
        return self.validator.is_complete()


class Spot:
    """A place in the row of the output: what is written there, or the end of a lane."""

    def __init__(self, written, frame, index):
        # A tuple (output event, place), or None.
        self.written = written
        # The frame, and the index of the part whose event or lane this is, or in whose lane the sign came.
        self.frame = frame
        self.index = index
        self.before = None
        self.behind = None


class Element:
    """An open element: its frames, in the order of the output, and the uses by modes that they are of."""

    def __init__(self, kind, attributes, place):
        self.kind = kind
        self.attributes = attributes
        self.place = place
        self.state = 0
        self.has_ended = False
        self.used = []
        self.uses = {}


class Use:
    """What all frames of one mode of an element have in common."""

    def __init__(self, mode, rows):
        self.mode = mode
        # The settled parts of the rule.
        self.rows = rows
        # Which of them are lanes that are live.
        self.alive = [row[0] == "lane" for row in rows]
        # The index of the first live lane: the events before it are written.
        self.first = 0
        self.many = 0


class Frame:
    """One use of an element."""

    def __init__(self, element, use, where):
        self.element = element
        self.use = use
        # The frame of the element around it, and the index of the lane among its parts.
        self.where = where
        # The spots at the ends of its lanes, by their indexes among the parts.
        self.ends = {}


def form_of(frame, inner):
    """The form of the frame; inner has the forms of the frames of the open child."""
    form = []
    for index, row in enumerate(frame.use.rows):
        if row[0] == "lane":
            form.append((*row, frame.use.alive[index], inner.get((frame, index))))
        else:
            form.append(row)
    return tuple(form)


def put_before(spot, behind):
    """Puts a new spot into the row of the output."""
    spot.behind = behind
    spot.before = behind.before
    behind.before.behind = spot
    behind.before = spot


def takers(use, symbol):
    """The list of the indexes of the lanes that take the symbol."""
    return [index for index, row in enumerate(use.rows) if row[0] == "lane" and symbol in row[2]]


def begin_element(machine, event):
    """The start of an element."""
    grammar = machine.facts.grammar
    if not machine.around:
        element = Element(grammar.root, event[2], machine.taken)
        add_frame(machine, element, machine.facts.program["start"], ROOT, machine.limit)
    else:
        parent = machine.around[-1]
        element = Element(grammar.child_type(parent.kind, event[1]), event[2], machine.taken)
        add_frames(machine, parent, element)
        go_on(machine, parent, element.kind)
    machine.around.append(element)
    settle_lanes(machine, element)


def add_frames(machine, parent, element):
    """Gives a child its frames in the lanes of the element around it."""
    taking = {mode: takers(use, element.kind) for mode, use in parent.uses.items()}
    places = [(frame, index) for frame in parent.used for index in taking[frame.use.mode]]
    for frame, index in places:
        # What comes into a lane that is not live gives nothing, and need not stand in the row.
        behind = frame.ends[index] if frame.use.alive[index] else None
        if machine.many_frames >= MOST_FRAMES:
            raise TooMany()
        add_frame(machine, element, frame.use.rows[index][1], (frame, index), behind)


def add_frame(machine, element, mode, where, behind):
    """Gives an element a frame of the mode, whose parts come before the spot behind it, if it is not None."""
    machine.many_frames += 1
    if mode not in element.uses:
        element.uses[mode] = Use(mode, machine.facts.parts(mode, element.kind, element.attributes))
    use = element.uses[mode]
    use.many += 1
    frame = Frame(element, use, where)
    element.used.append(frame)
    for index, row in enumerate(use.rows):
        if row[0] == "lane":
            spot = Spot(None, frame, index)
            frame.ends[index] = spot
        else:
            spot = Spot((row[1], element.place), frame, index)
        if behind is not None:
            put_before(spot, behind)


def take_sign(machine, event):
    """A sign of the open element."""
    element = machine.around[-1]
    modes = machine.facts.program["modes"]
    taking = {}
    for mode, use in element.uses.items():
        taking[mode] = [index for index in takers(use, "char") if modes[use.rows[index][1]]]
    for frame in element.used:
        for index in taking[frame.use.mode]:
            put_before(Spot((event, machine.taken), frame, index), frame.ends[index])
            machine.many_kept += 1
    go_on(machine, element, "char")


def end_element(machine):
    """The end of the open element: no lane of it is live any more."""
    element = machine.around.pop()
    element.has_ended = True
    machine.many_frames -= len(element.used)
    for use in element.uses.values():
        use.alive = [False for _ in use.rows]
        machine.many_kept += newly_written(use) * use.many


def go_on(machine, element, symbol):
    """The symbol of a child has come in the element."""
    state = machine.facts.grammar.step(element.kind, element.state, symbol)
    if state != element.state:
        element.state = state
        settle_lanes(machine, element)


def settle_lanes(machine, element):
    """Finds the lanes that are live no more in the state of the element, and counts what is written now."""
    for use in element.uses.values():
        for index, row in enumerate(use.rows):
            if use.alive[index]:
                use.alive[index] = machine.facts.live(row[1], row[2], element.kind, element.state)
        machine.many_kept += newly_written(use) * use.many


def newly_written(use):
    """Goes on to the first live lane; the number of the events that are passed."""
    many = 0
    while use.first < len(use.rows) and not use.alive[use.first]:
        if use.rows[use.first][0] == "event":
            many += 1
        use.first += 1
    return many


def leaving(machine):
    """Takes what stands ahead of the first live lane out of the row."""
    told = []
    spot = machine.limit.behind
    while spot.written is not None or is_dead_end(spot):
        if spot.written is not None:
            told.append(spot.written)
        spot = spot.behind
    machine.limit.behind = spot
    spot.before = machine.limit
    machine.many_kept -= len(told)
    return told


def is_dead_end(spot):
    """True if the spot is the end of a lane that is not live."""
    return spot.frame is not None and not spot.frame.use.alive[spot.index]


def run_document(grammar, program, document):
    """The list of all that leaves while the machine reads the document."""
    machine = Machine(grammar, program)
    told = []
    for event in document:
        told.extend(machine.event(event))
    if not machine.wholly():
        raise NotDocument(len(document))
    return told
