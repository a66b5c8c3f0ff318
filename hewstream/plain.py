"""The plain output of a program: what its rules write for a whole document."""

from hewstream.errors import NotValid, TooMany
from hewstream.events import is_document
from hewstream.programs import body_of, is_fitting, settled
from hewstream.validator import validate

MOST_OUTPUT = 20000


def plain_output(grammar, program, document):
    """The list of the tuples (output event, place)."""
    if not is_fitting(program, grammar) or not is_document(document) or validate(grammar, document) != (-1, ""):
        raise NotValid()
    uses = uses_in(program, nodes_in(grammar, numbered(document), grammar.root))
    rows = {}
    counts = {}
    # Uses of children stand behind those of the elements around them.
    for use in sorted(uses, reverse=True):
        rows[use] = shortened(uses[use], rows)
        counts[use] = counted(rows[use], counts)
    root = (0, program["start"])
    if counts[root] > MOST_OUTPUT:
        raise TooMany()
    output = []
    todo = [root]
    while todo:
        piece = todo.pop()
        if is_use(piece):
            todo.extend(rows[piece][::-1])
        else:
            output.append(piece)
    return output


def without_places(output):
    """The list of the output events."""
    return [event for event, _ in output]


class Node:
    """An element of a document; its children are tuples (symbol, key, sign or "")."""

    def __init__(self, kind, attributes):
        self.kind = kind
        self.attributes = attributes
        self.children = []


def nodes_in(grammar, marks, root):
    """A dict from the keys of the elements of a valid element of the type to these, in their order.

    Marks are the tuples (event, key) of its events; in places of keys the numbers of the events can stand.
    """
    nodes = {}
    around = []
    for event, key in marks:
        if event[0] == "end":
            around.pop()
        elif event[0] == "char":
            around[-1].children.append(("char", key, event[1]))
        else:
            kind = grammar.child_type(around[-1].kind, event[1]) if around else root
            if around:
                around[-1].children.append((kind, key, ""))
            nodes[key] = Node(kind, event[2])
            around.append(nodes[key])
    return nodes


def numbered(document):
    """The tuples (event, its number)."""
    return [(event, number) for number, event in enumerate(document)]


def uses_in(program, nodes):
    """A dict from the uses of elements, tuples (number of the start event, mode), to their pieces.

    A piece is a tuple (output event, place), or the use of a child.
    """
    uses = {(0, program["start"]): []}
    many = 0
    for number, node in nodes.items():
        for mode in program["modes"]:
            if (number, mode) not in uses:
                continue
            parts = settled(body_of(program, mode, node.kind), node.attributes)
            pieces = pieces_of(program, parts, number, node)
            uses[number, mode] = pieces
            inner = [piece for piece in pieces if is_use(piece)]
            for piece in inner:
                uses.setdefault(piece, [])
            # Each use is written once at least.
            many += len(pieces) - len(inner)
            if many > MOST_OUTPUT:
                raise TooMany()
    return uses


def is_use(piece):
    return isinstance(piece[0], int)


def pieces_of(program, parts, number, node):
    """What a settled rule writes for the element, child by child."""
    pieces = []
    for part in parts:
        if part[0] == "event":
            pieces.append((part[1], number))
            continue
        _, inner, symbols = part
        for symbol, place, sign in node.children:
            if symbol not in symbols:
                continue
            if symbol != "char":
                pieces.append((place, inner))
            elif program["modes"][inner]:
                pieces.append((("char", sign), place))
    return pieces


def shortened(pieces, rows):
    """The pieces that write something; uses that come down to one piece are replaced by it.

    So each use that is left writes two pieces at least, and writing all takes no longer than the output is.
    """
    found = []
    for piece in pieces:
        row = rows[piece] if is_use(piece) else [piece]
        found.extend(row if len(row) == 1 else [piece] if row else [])
    return found


def counted(pieces, counts):
    """The number of events that the pieces write, not counted far beyond what is allowed."""
    many = sum([counts[piece] if is_use(piece) else 1 for piece in pieces])
    return min(many, MOST_OUTPUT + 1)
