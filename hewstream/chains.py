"""Chains of programs, each of which reads the output of the one before it."""

from hewstream.errors import NotDocument, NotValid
from hewstream.events import document_events, is_tuple
from hewstream.machine import Machine
from hewstream.plain import plain_output
from hewstream.programs import is_fitting
from hewstream.schemas import Grammar
from hewstream.validator import validate


class Chain:
    """The machines of a chain; all places are those of the first document."""

    def __init__(self, links):
        if not is_links(links):
            raise NotValid()
        self.machines = [Machine(grammar, program) for grammar, program in links]
        # For each machine the places of its input events.
        self.places = [[] for _ in links]

    def event(self, event):
        """Takes an input event of the first machine; the list of what leaves the last one."""
        number = len(self.places[0])
        rows = [(event, number)]
        for machine, places in zip(self.machines, self.places):
            rows = passed_on(machine, places, rows, number)
        if self.machines[0].wholly() and not self.wholly():
            raise NotDocument(number + 1)
        return rows

    def kept(self):
        """The number of the events that the machines keep together."""
        return sum([machine.kept() for machine in self.machines])

    def wholly(self):
        """True if all machines have read a whole document."""
        return all([machine.wholly() for machine in self.machines])


def is_links(value):
    """True if the value is a list of the links of a chain; it may be anything."""
    if not isinstance(value, list) or len(value) == 0:
        return False
    return all([is_tuple(link, 2) and isinstance(link[0], Grammar) and is_fitting(link[1], link[0]) for link in value])


def passed_on(machine, places, rows, number):
    """What leaves a machine with what has left the one before it, while the first one takes this event."""
    told = []
    for event, place in as_input(rows):
        places.append(place)
        try:
            left = machine.event(event)
        except NotDocument:
            raise NotDocument(number)
        told.extend([(output, places[at]) for output, at in left])
    return told


def as_input(rows):
    """The tuples (document event, place) of tuples (output event, place)."""
    return [(event, place) for output, place in rows for event in document_events([output])]


def plain_chain(links, document):
    """The output of a chain for a valid document by the plain meanings of its links."""
    if not is_links(links):
        raise NotValid()
    rows = [(event, place) for place, event in enumerate(document)]
    for index, (grammar, program) in enumerate(links):
        read = as_input(rows)
        events = [event for event, _ in read]
        if index > 0 and validate(grammar, events) != (-1, ""):
            raise NotDocument(len(document))
        rows = [(output, read[at][1]) for output, at in plain_output(grammar, program, events)]
    return rows
