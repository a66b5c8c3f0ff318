"""Another reading of edits: a tree whose nodes have keys, changed child by child."""

import copy

from hewstream.events import is_document
from hewstream.validator import validate
from program_oracle import plain_meaning


class KeyedNode:
    def __init__(self, event, key):
        self.event, self.key, self.children = event, key, []


def nodes_of(events, keys):
    """The nodes of a row of whole elements and signs; keys is a list from which the next ones are taken."""
    rows = [[]]
    around = []
    for event in events:
        if event[0] == "end":
            rows.pop()
            around.pop()
            continue
        node = KeyedNode(event, keys.pop(0))
        rows[-1].append(node)
        if event[0] == "start":
            rows.append(node.children)
            around.append(node)
    return rows[0]


class KeyedTree:
    """An edited document; edit tells whether the edit is made."""

    def __init__(self, grammar, document):
        self.grammar = grammar
        self.free = sum(event[0] != "end" for event in document)
        self.root = nodes_of(document, list(range(self.free)))[0]
        self.past = []

    def marks(self):
        return marks_of(self.root)

    def document(self):
        return [event for event, _ in self.marks()]

    def edit(self, exchanges):
        before = copy.deepcopy(self.root), self.free
        places = []
        for path, index, many, children in exchanges:
            count = sum(event[0] != "end" for event in children)
            new = nodes_of(children, list(range(self.free, self.free + count)))
            self.free += count
            if path is None:
                self.root = new[0]
            else:
                node = self.root
                for number in path:
                    node = node.children[number]
                places.append((node, index, many, new))
        for node, index, many, new in sorted(places, key=lambda place: place[1], reverse=True):
            node.children[index:index + many] = new
        if not is_document(self.document()) or validate(self.grammar, self.document()) != (-1, ""):
            self.root, self.free = before
            return False
        self.past.append(before)
        return True

    def back(self):
        if not self.past:
            return False
        self.root, self.free = self.past.pop()
        return True

    def output(self, program):
        """The plain output with keys as places."""
        marks = self.marks()
        return [(event, marks[place][1]) for event, place in plain_meaning(self.grammar, program, self.document())]


def marks_of(node):
    if node.event[0] == "char":
        return [(node.event, node.key)]
    return [(node.event, node.key), *[mark for child in node.children for mark in marks_of(child)], (("end", node.event[1]), node.key)]


def least_patch(before, behind):
    """The patch that takes out just the items whose key has gone, and puts in just those whose key is new."""
    gone, new = {key for _, key in before} - {key for _, key in behind}, {key for _, key in behind} - {key for _, key in before}
    pieces, at, place = [], 0, 0
    while at <= len(before):
        begin, items = at, []
        while at < len(before) and before[at][1] in gone:
            at += 1
        while place < len(behind) and behind[place][1] in new:
            items.append(behind[place])
            place += 1
        if begin < at or items:
            pieces.append((begin, at, items))
        if at < len(before):
            assert before[at] == behind[place]
        at += 1
        place += 1
    return pieces


def random_exchanges(chance, tree, rows):
    """Some exchanges of the tree; rows are the rows of children that are put in."""
    nodes = []
    todo = [((), tree.root)]
    while todo:
        path, node = todo.pop()
        nodes.append((path, node))
        todo.extend(((*path, index), child) for index, child in enumerate(node.children) if child.event[0] == "start")
    found = []
    for path, node in chance.sample(nodes, min(len(nodes), chance.choice([1, 1, 2, 3]))):
        index = chance.randrange(len(node.children) + 1)
        many = chance.choice([0, 1, 1, len(node.children)])
        found.append((path, index, min(many, len(node.children) - index), list(chance.choice(rows))))
        if index + many + 1 <= len(node.children) and chance.random() < 0.4:
            found.append((path, index + many + 1, 0, list(chance.choice(rows))))
    chance.shuffle(found)
    return [row for row in found if not any(is_within(row, other) for other in found)]


def is_within(row, other):
    """True if the path of the exchange leads through a child that the other one takes out."""
    path, outer = row[0], other[0]
    return len(path) > len(outer) and path[:len(outer)] == outer and other[1] <= path[len(outer)] < other[1] + other[2]
