"""Reads a document as the machine does, but passes over the insides that do not matter."""

from hewstream.errors import NotDocument
from hewstream.insides import least_inside
from hewstream.machine import Machine
from hewstream.skipping import decide_skip


class Skimmer:
    """Reads one document event by event."""

    def __init__(self, facts):
        self.facts = facts
        self.machine = Machine(facts.grammar, facts.program, facts)
        # How many events of the document have come, and how many of them were not looked at.
        self.taken = 0
        self.many_passed = 0
        # The places of the machine's input events in the document.
        self.places = []
        # How many elements are open in the inside that is passed over, -1 outside of one.
        self.nested = -1
        # What was decided, by (type, attributes, modes).
        self.decided = {}

    def event(self, event):
        """Takes an input event; the list of the tuples (output event, place) that leave."""
        if self.nested >= 0 and not (self.nested == 0 and event[0] == "end"):
            self.nested += {"start": 1, "char": 0, "end": -1}[event[0]]
            self.many_passed += 1
            self.taken += 1
            return []
        told = give(self, event, self.taken)
        self.nested = -1
        if event[0] == "start" and can_be_passed(self):
            self.nested = 0
            kind = self.machine.around[-1].kind
            for offset, inner in enumerate(least_inside(self.facts.grammar, kind)):
                told.extend(give(self, inner, self.taken + 1 + offset))
        self.taken += 1
        return told

    def passes(self):
        """True if the next event, if it is not the end of the element, is not looked at."""
        return self.nested >= 0

    def passed(self):
        """How many events were not looked at."""
        return self.many_passed

    def wholly(self):
        """True if the document has ended."""
        return self.machine.wholly()


def give(skimmer, event, place):
    """Gives the machine an event that has this place; what leaves."""
    skimmer.places.append(place)
    try:
        told = skimmer.machine.event(event)
    except NotDocument:
        raise NotDocument(skimmer.taken)
    return [(output, skimmer.places[at]) for output, at in told]


def can_be_passed(skimmer):
    """True if the inside of the element that has just begun can be passed over."""
    element = skimmer.machine.around[-1]
    modes = tuple(sorted(element.uses))
    row = (element.kind, element.attributes, modes)
    if row not in skimmer.decided:
        skimmer.decided[row] = decide_skip(skimmer.facts, element.kind, element.attributes, modes)[0] == "same"
    return skimmer.decided[row]
