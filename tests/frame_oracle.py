"""Another reading of the machine: all frames of a beginning of a document, made anew from its first event on."""


class Open:
    """An element of a beginning of a document."""

    def __init__(self, kind, attributes, place):
        self.kind, self.attributes, self.place = kind, attributes, place
        self.state, self.children, self.ended = 0, [], False


def elements_of(grammar, events):
    """The root, with all that has come, and the list of the open elements."""
    root, around = None, []
    for place, event in enumerate(events):
        if event[0] == "end":
            around.pop().ended = True
            continue
        parent = around[-1] if around else None
        if event[0] == "char":
            symbol, child = "char", (event, place)
        else:
            symbol = grammar.child_type(parent.kind, event[1]) if parent else grammar.root
            child = Open(symbol, event[2], place)
            around.append(child)
            root = root or child
        if parent:
            parent.state = grammar.step(parent.kind, parent.state, symbol)
            parent.children.append((symbol, child))
    return root, around


class Made:
    """A frame: its parts as ("event", output event, place) and ("lane", mode, symbols, live, what has come)."""

    def __init__(self, facts, mode, element):
        self.mode, self.element = mode, element
        self.parts = []
        for part in facts.parts(mode, element.kind, element.attributes):
            if part[0] == "event":
                self.parts.append((*part, element.place))
                continue
            _, inner, symbols = part
            live = not element.ended and facts.live(inner, symbols, element.kind, element.state)
            come = []
            for symbol, child in element.children:
                if symbol in symbols and symbol != "char":
                    come.append(Made(facts, inner, child))
                elif symbol in symbols and facts.program["modes"][inner]:
                    come.append(child)
            self.parts.append(("lane", inner, symbols, live, come))

    def form(self):
        told = []
        for part in self.parts:
            if part[0] == "event":
                told.append(part[:2])
            else:
                last = part[4][-1] if part[4] else None
                inner = last.form() if isinstance(last, Made) and not last.element.ended else None
                told.append((*part[:4], inner))
        return tuple(told)

    def frames(self):
        """The frames of open elements in this one, itself included, in the order of the output.

        With True for those behind a live lane of an element around them.
        """
        return self.frames_behind(float("inf"))[0]

    def frames_behind(self, least):
        """The frames, and the least place of the elements with live lanes before what follows.

        Of open elements those around have lesser places.
        """
        found = [] if self.element.ended else [(self, least < self.element.place)]
        for part in self.parts:
            if part[0] == "lane":
                for child in part[4]:
                    if isinstance(child, Made):
                        inner, least = child.frames_behind(least)
                        found += inner
                if part[3]:
                    least = min(least, self.element.place)
        return found, least

    def written(self):
        """The output events in their order, as (event, place, True if it is written), None for a live lane."""
        told = []
        ahead = True
        for part in self.parts:
            if part[0] == "event":
                told.append((part[1], part[2], ahead))
                continue
            for child in part[4]:
                told += child.written() if isinstance(child, Made) else [(child[0], child[1], True)]
            if part[3]:
                told.append(None)
                ahead = False
        return told


class Moment:
    """What a machine must tell behind these events."""

    def __init__(self, facts, events):
        root, around = elements_of(facts.grammar, events)
        frame = Made(facts, facts.program["start"], root) if root else None
        told = frame.written() if frame else []
        many = told.index(None) if None in told else len(told)
        self.left = [row[:2] for row in told[:many]]
        self.kept = len([row for row in told[many:] if row is not None and row[2]])
        self.frames = frame.frames() if frame else []
        self.depth = len(around)
        self.shape = (tuple((element.kind, element.state) for element in around), frame.form() if around else None)
        self.wholly = root is not None and root.ended
