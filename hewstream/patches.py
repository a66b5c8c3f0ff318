"""Patches: how lists become other ones."""

from hewstream.events import children_in, document_events, is_document


def apply_patch(patch, items):
    """The list behind the patch."""
    found = []
    at = 0
    for begin, end, new in patch:
        found.extend(items[at:begin])
        found.extend(new)
        at = end
    return found + items[at:]


def undo_patch(patch, items):
    """The patch that leads back to these items."""
    pieces = []
    # How many more items stand ahead of the piece behind the patch than before it.
    more = 0
    for begin, end, new in patch:
        pieces.append((begin + more, begin + more + len(new), items[begin:end]))
        more += len(new) - (end - begin)
    return pieces


def join_patches(first, second, many):
    """The patch of both, for a list of so many items before the first one."""
    # What stands behind both: numbers of items that stay, and items that are put in, in tuples of one.
    kept = list(range(many))
    marks = apply_patch([(begin, end, [(item,) for item in new]) for begin, end, new in first], kept)
    marks = apply_patch([(begin, end, [(item,) for item in new]) for begin, end, new in second], marks)
    pieces = []
    at = 0
    new = []
    for mark in marks + [many]:
        if isinstance(mark, tuple):
            new.append(mark[0])
            continue
        if at < mark or new:
            pieces.append((at, mark, new))
        new = []
        at = mark + 1
    return pieces


def exchanges_of(document, patch):
    """The list of the exchanges for a patch of the events of a document; None if it is not one of exchanges."""
    if len(patch) == 1 and (patch[0][0], patch[0][1]) == (0, len(document)):
        children = document_events(patch[0][2])
        return [(None, 0, 1, children)] if is_document(children) else None
    exchanges = []
    # How many children of each open element have begun, the root first.
    counts = []
    at = 0
    for begin, end, new in patch:
        while at < begin:
            count_event(counts, document[at])
            at += 1
        children = document_events(new)
        many = children_in(document[begin:end])
        if not counts or many < 0 or children_in(children) < 0:
            return None
        path = tuple([count - 1 for count in counts[:-1]])
        exchanges.append((path, counts[-1], many, children))
    return exchanges


def count_event(counts, event):
    """Goes on by an event of a document."""
    if event[0] == "end":
        counts.pop()
        return
    if counts:
        counts[-1] += 1
    if event[0] == "start":
        counts.append(0)
