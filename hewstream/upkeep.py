"""Chains of programs whose first document changes."""

from hewstream.chains import is_links
from hewstream.edits import Edited, is_valid
from hewstream.errors import NotDocument, NotValid, TooMany
from hewstream.events import document_events
from hewstream.patches import exchanges_of


class EditedChain:
    """The edited documents of all links of a chain."""

    def __init__(self, links, document):
        if not is_links(links):
            raise NotValid()
        self.parts = []
        # For each link, by the keys of its document, the keys of the first one.
        self.origins = []
        rows = []
        for grammar, program in links:
            events = document
            if self.parts:
                events = [event for event, _ in rows]
                if not is_valid(grammar, events):
                    raise NotDocument(len(document))
            part = Edited(grammar, program, events)
            keys = new_keys(rows) if self.parts else list(range(part.now.free))
            self.parts.append(part)
            self.origins.append(keys)
            rows = as_document(with_origins(part.output(), keys))

    def edit(self, rows):
        """Makes an edit of the first document; the patch of the last output, or None if it is refused."""
        made = []
        try:
            patch = edit_links(self, rows, made)
        except TooMany:
            take_back(self, made)
            raise TooMany()
        if patch is None:
            take_back(self, made)
        return patch

    def back(self):
        """Takes the last edit back; the patch of the last output, or None if there is none."""
        patch = None
        for part in self.parts:
            patch = part.back()
        if patch is None:
            return None
        forget_keys(self, self.parts)
        return patch_with_origins(patch, self.origins[-1])

    def output(self):
        """The list of the tuples (output event, key of the first document)."""
        return with_origins(self.parts[-1].output(), self.origins[-1])


def with_origins(rows, keys):
    """The tuples (output event, key of the first document) for such ones with keys of a link."""
    return [(event, keys[key]) for event, key in rows]


def patch_with_origins(patch, keys):
    """The patch with the keys of the first document."""
    return [(begin, end, with_origins(new, keys)) for begin, end, new in patch]


def as_document(rows):
    """The tuples (document event, key) of an output."""
    return [(event, key) for told, key in rows for event in document_events([told])]


def new_keys(rows):
    """The keys of the nodes among the tuples (document event, key), in their order."""
    return [key for event, key in rows if event[0] != "end"]


def edit_links(chain, rows, made):
    """Makes the edit in one link after the other, and puts these into the list.

    Returns the patch of the last output, or None if a link refuses.
    """
    exchanges = rows
    come = []
    patch = []
    for number, part in enumerate(chain.parts):
        told = part.output()
        patch = part.edit(exchanges)
        if patch is None:
            return None
        made.append(part)
        keys = chain.origins[number]
        keys.extend(come if number > 0 else list(range(len(keys), part.now.free)))
        patch = patch_with_origins(patch, keys)
        if number + 1 < len(chain.parts):
            pieces = document_patch(patch, told)
            come = [key for _, _, new in pieces for key in new_keys(new)]
            events = [(begin, end, [event for event, _ in new]) for begin, end, new in pieces]
            exchanges = exchanges_of(chain.parts[number + 1].document(), events)
            if exchanges is None:
                return None
    return patch


def document_patch(patch, told):
    """The patch of the document events of an output, for the output before it."""
    places = [0]
    for event, _ in told:
        places.append(places[-1] + (len(event[1]) if event[0] == "signs" else 1))
    return [(places[begin], places[end], as_document(new)) for begin, end, new in patch]


def take_back(chain, made):
    """Takes an edit back in the links that have made it."""
    for part in made:
        part.back()
    forget_keys(chain, made)


def forget_keys(chain, parts):
    """Forgets the keys that are free again in the first links."""
    for part, keys in zip(parts, chain.origins):
        del keys[part.now.free:]
