"""Contents: which rows of children an element can have."""

from hewstream.errors import BadText
from hewstream.tokens import NAME_SIGNS, is_name

WORDS = ("empty", "chars")
SEPARATORS = {"seq": ", ", "or": " | "}
KINDS_BEHIND = {"*": "star", "+": "plus", "?": "maybe"}
SIGNS_BEHIND = {"star": "*", "plus": "+", "maybe": "?"}


def is_type_name(value):
    """True if the value is the name of a type; it may be anything."""
    return is_name(value) and value not in ("empty", "chars", "char")


def is_content(value):
    """True if the value is a content; it may be anything."""
    todo = [value]
    while todo:
        inner = parts_within(todo.pop())
        if inner is None:
            return False
        todo.extend(inner)
    return True


def parts_within(value):
    """The parts of a content, not looked into; None if its own form is wrong."""
    if not isinstance(value, tuple) or not 1 <= len(value) <= 2 or not isinstance(value[0], str):
        return None
    if len(value) == 1:
        return () if value[0] in WORDS else None
    kind, inner = value
    if kind == "type":
        return () if is_type_name(inner) else None
    if kind in SEPARATORS:
        return inner if isinstance(inner, tuple) and len(inner) >= 2 else None
    return (inner,) if kind in SIGNS_BEHIND else None


def nodes_of(content):
    """The list of the nodes of a content, the whole first, the parts of each one behind it.

    A node is a tuple (kind, name, numbers): the name of a type, or "", and the numbers of the parts.
    """
    nodes = []
    found = [content]
    while len(nodes) < len(found):
        part = found[len(nodes)]
        inner = parts_within(part)
        name = part[1] if part[0] == "type" else ""
        nodes.append((part[0], name, tuple(range(len(found), len(found) + len(inner)))))
        found.extend(inner)
    return nodes


def names_in(content):
    """The names of types that stand in a content, ascending, each once."""
    return sorted(set([name for kind, name, _ in nodes_of(content) if kind == "type"]))


def print_content(content):
    """The printed form of a content."""
    words = []
    # What is still to be printed: contents, and strings as they are.
    todo = [content]
    while todo:
        part = todo.pop()
        if isinstance(part, str):
            words.append(part)
        else:
            todo.extend(printed_parts(part)[::-1])
    return "".join(words)


def printed_parts(content):
    """The list of the strings and contents that the printed form of a content has, in order."""
    kind = content[0]
    if kind in WORDS:
        return [kind]
    if kind == "type":
        return [content[1]]
    if kind in SIGNS_BEHIND:
        return bracketed(content[1], kind) + [SIGNS_BEHIND[kind]]
    found = []
    for part in content[1]:
        if found:
            found.append(SEPARATORS[kind])
        found.extend(bracketed(part, kind))
    return found


def bracketed(part, around):
    """The part as it stands in a content of the kind around."""
    if part[0] == "or" or (part[0] == "seq" and around != "or"):
        return ["(", part, ")"]
    return [part]


def read_content(text):
    """The content that is written in a text."""
    return content_of_words(words_of(text), len(text) + 1)


def words_of(text):
    """The list of the tuples (part, place) of a line; only spaces stand between parts."""
    words = []
    begin = 0
    while begin < len(text):
        end = begin + 1
        if text[begin] in NAME_SIGNS:
            while end < len(text) and text[end] in NAME_SIGNS:
                end += 1
        if text[begin] != " ":
            words.append((text[begin:end], begin + 1))
        begin = end
    return words


def content_of_words(words, end):
    """The content that the words are; end is the place where a missing one is told."""
    levels = [Level()]
    wanted = True
    for word, place in words:
        level = levels[-1]
        if wanted and word == "(":
            levels.append(Level())
        elif wanted:
            level.row.append(single_content(word, place))
            wanted = False
        elif word in KINDS_BEHIND:
            level.row[-1] = (KINDS_BEHIND[word], level.row[-1])
        elif word == ",":
            wanted = True
        elif word == "|":
            level.end_row()
            wanted = True
        elif word == ")" and len(levels) > 1:
            levels.pop()
            levels[-1].row.append(level.content())
        else:
            raise BadText(1, place)
    if wanted or len(levels) > 1:
        raise BadText(1, end)
    return levels[0].content()


def single_content(word, place):
    if word in WORDS:
        return (word,)
    if not is_type_name(word):
        raise BadText(1, place)
    return ("type", word)


class Level:
    """What was read behind a bracket that is open, or at the outermost: rows between bars."""

    def __init__(self):
        self.choices = []
        self.row = []

    def end_row(self):
        """The row between two commas or bars is whole."""
        self.choices.append(joined("seq", self.row))
        self.row = []

    def content(self):
        """The content of what was read."""
        return joined("or", self.choices + [joined("seq", self.row)])


def joined(kind, parts):
    """The parts in one tuple of this kind; a single part stands for itself."""
    return parts[0] if len(parts) == 1 else (kind, tuple(parts))
