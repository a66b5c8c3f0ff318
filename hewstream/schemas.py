"""Schemas: the types of elements, their attributes and contents."""

from hewstream.automata import automaton_of
from hewstream.errors import BadText, NotValid
from hewstream.events import ascends, is_tuple
from hewstream.regexes import content_of_words, is_content, is_type_name, names_in, nodes_of, print_content, words_of
from hewstream.tokens import MOST_ATTRIBUTES, is_name


def is_schema(value):
    """True if the value is a schema; it may be anything."""
    if not isinstance(value, dict) or len(value) != 2 or "root" not in value or "types" not in value:
        return False
    root, rows = value["root"], value["types"]
    if not isinstance(rows, dict) or not is_type_name(root) or root not in rows:
        return False
    if not all([is_type_name(kind) and is_type_row(rows[kind], rows) for kind in rows]):
        return False
    return len(productive(rows)) == len(rows) and len(reached(root, rows)) == len(rows)


def is_type_row(value, rows):
    """True if the value can be what the schema tells of a type; rows are those of all types."""
    if not is_tuple(value, 3):
        return False
    element, attributes, content = value
    if not is_name(element) or not is_attribute_rows(attributes) or not is_content(content):
        return False
    kinds = names_in(content)
    if not all([kind in rows and is_tuple(rows[kind], 3) and is_name(rows[kind][0]) for kind in kinds]):
        return False
    return len(set([rows[kind][0] for kind in kinds])) == len(kinds)


def is_attribute_rows(value):
    """True if the value can be the attributes of a type."""
    if not isinstance(value, tuple) or len(value) > MOST_ATTRIBUTES:
        return False
    if not all([is_tuple(row, 2) and is_name(row[0]) and isinstance(row[1], bool) for row in value]):
        return False
    return ascends([name for name, _ in value])


def productive(rows):
    """A dict with the types that have some finite valid element."""
    nodes = {kind: nodes_of(rows[kind][2]) for kind in rows}
    users = users_of(rows)
    found = {}
    todo = list(rows)
    while todo:
        kind = todo.pop()
        if kind not in found and has_row(nodes[kind], found):
            found[kind] = True
            todo.extend(users[kind])
    return found


def users_of(rows):
    """A dict from each type to the list of the types in whose contents it stands."""
    users = {kind: [] for kind in rows}
    for kind in rows:
        for name in names_in(rows[kind][2]):
            users[name].append(kind)
    return users


def has_row(nodes, found):
    """True if the content of these nodes has a row whose types are all among the found ones."""
    good = {}
    for number in reversed(range(len(nodes))):
        kind, name, inner = nodes[number]
        if kind == "type":
            good[number] = name in found
        elif kind == "or":
            good[number] = any([good[part] for part in inner])
        elif kind in ("seq", "plus"):
            good[number] = all([good[part] for part in inner])
        else:
            good[number] = True
    return good[0]


def reached(root, rows):
    """A dict with the types that contents lead to from the root."""
    found = {root: True}
    todo = [root]
    while todo:
        kind = todo.pop()
        for name in names_in(rows[kind][2]):
            if name not in found:
                found[name] = True
                todo.append(name)
    return found


def read_schema(text):
    """The schema that is written in a text."""
    roots = []
    rows = []
    for number, line in enumerate(text.split("\n")):
        words = words_of(line)
        try:
            if is_root_line(words):
                roots.append(read_root(words, len(line) + 1))
            elif words:
                rows.append(read_row(words, len(line) + 1))
        except BadText as fault:
            raise BadText(number + 1, fault.place)
    schema = {"root": roots[0] if roots else "", "types": {kind: row for kind, row in rows}}
    if len(roots) != 1 or len(schema["types"]) != len(rows) or not is_schema(schema):
        raise BadText(0, 0)
    return schema


def is_root_line(words):
    if not words or words[0][0] != "root":
        return False
    return len(words) == 1 or words[1][0] != "="


def read_root(words, end):
    """The type that the line of the root tells; end is the place behind the line."""
    word, place = word_at(words, 1, end)
    if not is_type_name(word):
        raise BadText(1, place)
    if len(words) > 2:
        raise BadText(1, words[2][1])
    return word


def word_at(words, index, end):
    """The part at the index with its place; "", which can stand nowhere, behind the last one."""
    return words[index] if index < len(words) else ("", end)


def read_row(words, end):
    """The type of a line and what the schema tells of it; end is the place behind the line."""
    kind, place = words[0]
    if not is_type_name(kind):
        raise BadText(1, place)
    check_word(words, 1, end, "=")
    element, place = word_at(words, 2, end)
    if not is_name(element):
        raise BadText(1, place)
    attributes = []
    index = 3
    while word_at(words, index, end)[0] == "@":
        name, place = word_at(words, index + 1, end)
        if not is_name(name):
            raise BadText(1, place)
        needed = word_at(words, index + 2, end)[0] == "!"
        attributes.append((name, needed))
        index += 3 if needed else 2
    check_word(words, index, end, ":")
    content = content_of_words(words[index + 1:], end)
    return kind, (element, tuple(sorted(attributes)), content)


def check_word(words, index, end, due):
    word, place = word_at(words, index, end)
    if word != due:
        raise BadText(1, place)


def print_schema(schema):
    """The printed form of a schema."""
    rows = schema["types"]
    lines = ["root " + schema["root"] + "\n"]
    for kind in sorted(rows):
        element, attributes, content = rows[kind]
        words = [kind, "=", element]
        words.extend(["@" + name + ("!" if needed else "") for name, needed in attributes])
        words.extend([":", print_content(content)])
        lines.append(" ".join(words) + "\n")
    return "".join(lines)


class Grammar:
    """A schema with the automata of its contents."""

    def __init__(self, schema):
        if not is_schema(schema):
            raise NotValid()
        self.root = schema["root"]
        rows = schema["types"]
        self.rows = {kind: rows[kind] for kind in rows}
        self.automata = {kind: automaton_of(rows[kind][2]) for kind in rows}
        self.nexts = {}
        self.ends = {}
        self.children = {}
        for kind in rows:
            for name in names_in(rows[kind][2]):
                self.children[kind, rows[name][0]] = name
            finals, edges = self.automata[kind]
            for state, symbol, behind in edges:
                self.nexts[kind, state, symbol] = behind
            for state in finals:
                self.ends[kind, state] = True

    def types(self):
        """The list of the types, ascending."""
        return sorted(self.rows)

    def name_of(self, kind):
        """The element name of a type."""
        return self.rows[kind][0]

    def attributes_of(self, kind):
        """The tuple of the attributes of a type, each with True if it is needed."""
        return self.rows[kind][1]

    def child_type(self, kind, element):
        """The type of a child with this element name in the content of the type, or None."""
        return self.children.get((kind, element))

    def automaton(self, kind):
        """The automaton of the content of a type."""
        return self.automata[kind]

    def step(self, kind, state, symbol):
        """The next state for a type or "char", or None."""
        return self.nexts.get((kind, state, symbol))

    def is_final(self, kind, state):
        """True if an element of the type can end in the state of its content."""
        return (kind, state) in self.ends

    def schema(self):
        """The schema."""
        return {"root": self.root, "types": {kind: self.rows[kind] for kind in self.rows}}
