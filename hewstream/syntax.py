"""The texts of programs."""

from hewstream.errors import BadText
from hewstream.programs import is_program, is_text
from hewstream.tokens import BLANKS, LETTERS, MOST_NAME, NAME_SIGNS

# So many { can be open at once.
MOST_OPEN = 40
MARKS = "{}(),=+@"
ESCAPED = "\"\\"


def parse_program(text):
    """The program that is written in a text."""
    source = Source(text)
    take_word(source, ("start",))
    start = take(source, "name")
    modes = []
    while is_word(source, "mode"):
        modes.append(read_mode(source))
    rules = []
    while is_word(source, "rule"):
        rules.append(read_rule(source))
    take(source, "end")
    program = {"start": start, "modes": dict(modes), "rules": {key: body for key, body in rules}}
    if len(program["modes"]) != len(modes) or len(program["rules"]) != len(rules) or not is_program(program):
        raise BadText(0, 0)
    return program


class Source:
    """The tokens of a text, of which all before the place `at` have been read."""

    def __init__(self, text):
        self.text = text
        self.tokens = tokens_of(text)
        self.at = 0
        # How many { are open.
        self.nested = 0


def tokens_of(text):
    """The list of the tokens of a text, as tuples (kind, word, index).

    The kind of a mark is the mark itself. The last token is the end, or what begins no token.
    """
    tokens = []
    at = 0
    while at < len(text):
        behind = at + 1
        if text[at] not in BLANKS:
            kind, word, behind = token_at(text, at)
            tokens.append((kind, word, at))
            if kind == "none":
                return tokens
        at = behind
    tokens.append(("end", "", at))
    return tokens


def token_at(text, begin):
    """The kind and the word of the token that begins here, and the place behind it."""
    if text[begin] in MARKS:
        return text[begin], text[begin], begin + 1
    if text[begin] == "\"":
        return string_at(text, begin)
    end = begin
    while end < len(text) and text[end] in NAME_SIGNS:
        end += 1
    if text[begin] not in LETTERS or end - begin > MOST_NAME:
        return "none", "", begin
    return "name", text[begin:end], end


def string_at(text, begin):
    """The string that begins here, as token_at tells it."""
    signs = []
    at = begin + 1
    while at < len(text) and text[at] != "\"":
        if text[at] == "\\":
            at += 1
            if at == len(text) or text[at] not in ESCAPED:
                return "none", "", begin
        elif not is_text(text[at]):
            return "none", "", begin
        signs.append(text[at])
        at += 1
    if at == len(text):
        return "none", "", begin
    return "string", "".join(signs), at + 1


def refuse(source):
    """Tells that the next token cannot stand where it stands."""
    before = source.text[:source.tokens[source.at][2]]
    raise BadText(before.count("\n") + 1, len(before) - before.rfind("\n"))


def kind_ahead(source):
    """The kind of the next token."""
    return source.tokens[source.at][0]


def is_word(source, word):
    """True if the next token is this word."""
    return kind_ahead(source) == "name" and source.tokens[source.at][1] == word


def take(source, kind):
    """Reads the next token, which must be of this kind; its word."""
    if kind_ahead(source) != kind:
        refuse(source)
    source.at += 1
    return source.tokens[source.at - 1][1]


def take_word(source, words):
    """Reads the next token, which must be one of these words; the word."""
    if not any([is_word(source, word) for word in words]):
        refuse(source)
    return take(source, "name")


def read_mode(source):
    """The mode of the text, and True if it keeps signs."""
    take_word(source, ("mode",))
    mode = take(source, "name")
    return mode, take_word(source, ("keeps", "drops")) == "keeps"


def read_rule(source):
    """The key of a rule, and its body."""
    take_word(source, ("rule",))
    mode = take(source, "name")
    kind = take(source, "name")
    return (mode, kind), read_body(source)


def read_body(source):
    """The items between a { and its }."""
    if source.nested == MOST_OPEN:
        refuse(source)
    take(source, "{")
    source.nested += 1
    items = []
    while kind_ahead(source) != "}":
        items.append(read_item(source))
    take(source, "}")
    source.nested -= 1
    return tuple(items)


def read_item(source):
    """One item of a body."""
    if kind_ahead(source) != "name":
        return read_part(source)
    word = take_word(source, ("make", "each", "if"))
    if word == "make":
        name = take(source, "name")
        attributes = read_row(source, read_attribute) if kind_ahead(source) == "(" else ()
        return ("make", name, attributes, read_body(source))
    if word == "each":
        mode = take(source, "name")
        return ("each", mode, read_row(source, read_name))
    return read_if(source)


def read_part(source):
    """A string or a value."""
    if kind_ahead(source) == "string":
        return ("text", take(source, "string"))
    take(source, "@")
    return ("value", take(source, "name"))


def read_if(source):
    """An if, behind its first word."""
    take(source, "@")
    name = take(source, "name")
    string = None
    if kind_ahead(source) == "=":
        take(source, "=")
        string = take(source, "string")
    body = read_body(source)
    other = ()
    if is_word(source, "else"):
        take(source, "name")
        other = read_body(source)
    return ("if", name, string, body, other)


def read_row(source, reader):
    """What the reader reads, at least once, between brackets and with commas between; ascending."""
    take(source, "(")
    rows = [reader(source)]
    while kind_ahead(source) == ",":
        take(source, ",")
        rows.append(reader(source))
    take(source, ")")
    return tuple(sorted(rows))


def read_name(source):
    return take(source, "name")


def read_attribute(source):
    """An attribute of a make with its parts."""
    name = take(source, "name")
    take(source, "=")
    parts = [read_part(source)]
    while kind_ahead(source) == "+":
        take(source, "+")
        parts.append(read_part(source))
    return name, tuple(parts)


def print_program(program):
    """The printed form of a program."""
    modes, rules = program["modes"], program["rules"]
    lines = [["start", program["start"]]]
    for mode in sorted(modes):
        lines.append(["mode", mode, "keeps" if modes[mode] else "drops"])
    for mode, kind in sorted(rules):
        lines.append(["rule", mode, kind] + body_words(rules[mode, kind]))
    return "".join([" ".join(words) + "\n" for words in lines])


def body_words(body):
    """The list of the tokens of a body, its brackets included."""
    words = ["{"]
    for item in body:
        words.extend(item_words(item))
    return words + ["}"]


def item_words(item):
    """The list of the tokens of an item."""
    kind = item[0]
    if kind == "make":
        rows = [[name, "="] + between([part_words(part) for part in parts], "+") for name, parts in item[2]]
        return ["make", item[1]] + (bracketed_words(rows) if rows else []) + body_words(item[3])
    if kind == "each":
        return ["each", item[1]] + bracketed_words([[symbol] for symbol in item[2]])
    if kind == "if":
        words = ["if", "@", item[1]] + ([] if item[2] is None else ["=", quoted(item[2])]) + body_words(item[3])
        return words + (["else"] + body_words(item[4]) if item[4] else [])
    return part_words(item)


def part_words(part):
    """The list of the tokens of a text or a value."""
    return [quoted(part[1])] if part[0] == "text" else ["@", part[1]]


def quoted(string):
    """The token of a string."""
    return "\"" + string.replace("\\", "\\\\").replace("\"", "\\\"") + "\""


def bracketed_words(rows):
    """The tokens of all rows, with commas between them, in brackets."""
    return ["("] + between(rows, ",") + [")"]


def between(rows, mark):
    """The tokens of all rows, with the mark between two of them."""
    words = []
    for row in rows:
        if words:
            words.append(mark)
        words.extend(row)
    return words
