"""Reads a text byte by byte and tells its events."""

from hewstream.errors import BadByte, NotValid, TooDeep

MOST_DEPTH = 60
MOST_NAME = 8
MOST_ATTRIBUTES = 8

LETTERS = "abcdefghijklmnopqrstuvwxyz"
NAME_SIGNS = "abcdefghijklmnopqrstuvwxyz0123456789"
BLANKS = " \t\n"
# The signs of the bytes from 32 to 126; the per cent sign, which is none, has a space in its place.
PRINTED = (
    " !\"#$ &'()*+,-./0123456789:;<=>?@"
    "ABCDEFGHIJKLMNOPQRSTUVWXYZ[\\]^_`"
    "abcdefghijklmnopqrstuvwxyz{|}~"
)
PER_CENT = 37
ENTITIES = {"lt;": "<", "gt;": ">", "amp;": "&", "quot;": "\""}


def is_name(value):
    """True if the value is a name of an element or an attribute."""
    if not isinstance(value, str) or not 1 <= len(value) <= MOST_NAME:
        return False
    return value[0] in LETTERS and all([sign in NAME_SIGNS for sign in value])


def sign_of(byte):
    """The sign of a byte, or "" if the byte stands in no text."""
    if byte == 9:
        return "\t"
    if byte == 10:
        return "\n"
    if byte < 32 or byte > 126 or byte == PER_CENT:
        return ""
    return PRINTED[byte - 32]


def is_integer(value):
    """True for an integer; True and False are none."""
    return isinstance(value, int) and not isinstance(value, bool)


def read_text(data):
    """The list of all events of a text, a list of bytes."""
    tokens = Tokens()
    events = tokens.feed(data)
    tokens.close()
    return events


class Tokens:
    """Reads one text from its beginning, cut into any pieces."""

    def __init__(self):
        self.place = 0
        # What is being read, a key of READERS; "outside" and "content" stand between tokens.
        self.reading = "outside"
        self.names = []
        self.ended = False
        self.name = ""
        self.attribute = ""
        self.pairs = {}
        self.signs = []
        self.entity = ""
        # How many signs of the name in an end tag have come.
        self.matched = 0
        # Where an entity stands: the sign goes there, and the reading goes on there.
        self.around = "content"
        self.told = []

    def feed(self, data):
        """Reads a piece; the list of the events whose last byte stands in it."""
        if not isinstance(data, list) or not all([is_integer(byte) for byte in data]):
            raise NotValid()
        self.told = []
        for byte in data:
            sign = sign_of(byte)
            if sign == "":
                raise BadByte(self.place)
            reader = READERS[self.reading]
            reader(self, sign)
            self.place += 1
        return self.told

    def close(self):
        """Ends the text."""
        if not self.ended or self.reading != "outside":
            raise BadByte(self.place)


def read_outside(tokens, sign):
    if sign == "<":
        tokens.reading = "less"
    elif sign not in BLANKS:
        raise BadByte(tokens.place)


def read_content(tokens, sign):
    if sign == "<":
        tokens.reading = "less"
    elif sign == "&":
        begin_entity(tokens, "content")
    else:
        tokens.told.append(("char", sign))


def read_less(tokens, sign):
    if sign == "!":
        tokens.reading = "bang"
    elif sign == "/" and tokens.names:
        tokens.matched = 0
        tokens.reading = "end name"
    elif sign in LETTERS and not tokens.ended:
        begin_element(tokens, sign)
    else:
        raise BadByte(tokens.place)


def begin_element(tokens, sign):
    if len(tokens.names) >= MOST_DEPTH:
        raise TooDeep(tokens.place)
    tokens.name = sign
    tokens.pairs = {}
    tokens.reading = "name"


def expect(tokens, sign, due, reading):
    """Goes on with this reading if the sign is the due one."""
    if sign != due:
        raise BadByte(tokens.place)
    tokens.reading = reading


def read_bang(tokens, sign):
    expect(tokens, sign, "-", "bangs")


def read_bangs(tokens, sign):
    expect(tokens, sign, "-", "comment")


def read_comment(tokens, sign):
    if sign == "-":
        tokens.reading = "dash"


def read_dash(tokens, sign):
    if sign == "-":
        tokens.reading = "dashes"
    else:
        tokens.reading = "comment"


def read_dashes(tokens, sign):
    expect(tokens, sign, ">", between_tokens(tokens))


def between_tokens(tokens):
    """The reading behind a whole tag or comment."""
    if tokens.names:
        return "content"
    return "outside"


def read_name(tokens, sign):
    if sign in NAME_SIGNS:
        tokens.name = lengthened(tokens, tokens.name, sign)
    else:
        read_valued(tokens, sign)


def lengthened(tokens, name, sign):
    if len(name) >= MOST_NAME:
        raise BadByte(tokens.place)
    return name + sign


def read_valued(tokens, sign):
    """Behind the name of the element or a value: a blank must stand before a further attribute."""
    if sign in BLANKS:
        tokens.reading = "gap"
    elif sign == "/":
        tokens.reading = "slash"
    elif sign == ">":
        tell_start(tokens)
        tokens.reading = "content"
    else:
        raise BadByte(tokens.place)


def read_gap(tokens, sign):
    """Behind a blank of a start tag."""
    if sign not in LETTERS:
        read_valued(tokens, sign)
    elif len(tokens.pairs) >= MOST_ATTRIBUTES:
        raise BadByte(tokens.place)
    else:
        tokens.attribute = sign
        tokens.reading = "attribute"


def read_attribute(tokens, sign):
    if sign in NAME_SIGNS:
        tokens.attribute = lengthened(tokens, tokens.attribute, sign)
        # Nothing but the = can follow now, and a second time it cannot.
        if len(tokens.attribute) == MOST_NAME and tokens.attribute in tokens.pairs:
            raise BadByte(tokens.place)
    elif sign == "=" and tokens.attribute not in tokens.pairs:
        tokens.reading = "equals"
    else:
        raise BadByte(tokens.place)


def read_equals(tokens, sign):
    expect(tokens, sign, "\"", "value")
    tokens.signs = []


def read_value(tokens, sign):
    if sign == "\"":
        tokens.pairs[tokens.attribute] = "".join(tokens.signs)
        tokens.reading = "valued"
    elif sign == "<":
        raise BadByte(tokens.place)
    elif sign == "&":
        begin_entity(tokens, "value")
    else:
        tokens.signs.append(sign)


def read_slash(tokens, sign):
    if sign != ">":
        raise BadByte(tokens.place)
    tell_start(tokens)
    tell_end(tokens)


def tell_start(tokens):
    names = sorted(tokens.pairs)
    tokens.told.append(("start", tokens.name, tuple([(name, tokens.pairs[name]) for name in names])))
    tokens.names.append(tokens.name)


def tell_end(tokens):
    tokens.told.append(("end", tokens.names.pop()))
    tokens.ended = not tokens.names
    tokens.reading = between_tokens(tokens)


def read_end_name(tokens, sign):
    """Behind the </ of an end tag, up to its end."""
    name = tokens.names[-1]
    if tokens.matched < len(name):
        if sign != name[tokens.matched]:
            raise BadByte(tokens.place)
        tokens.matched += 1
    elif sign == ">":
        tell_end(tokens)
    elif sign not in BLANKS:
        raise BadByte(tokens.place)


def begin_entity(tokens, around):
    tokens.around = around
    tokens.entity = ""
    tokens.reading = "entity"


def read_entity(tokens, sign):
    tokens.entity += sign
    if not any([entity.startswith(tokens.entity) for entity in ENTITIES]):
        raise BadByte(tokens.place)
    if tokens.entity in ENTITIES:
        tell_entity(tokens, ENTITIES[tokens.entity])


def tell_entity(tokens, sign):
    if tokens.around == "value":
        tokens.signs.append(sign)
    else:
        tokens.told.append(("char", sign))
    tokens.reading = tokens.around


READERS = {
    "outside": read_outside,
    "content": read_content,
    "less": read_less,
    "bang": read_bang,
    "bangs": read_bangs,
    "comment": read_comment,
    "dash": read_dash,
    "dashes": read_dashes,
    "name": read_name,
    "valued": read_valued,
    "gap": read_gap,
    "attribute": read_attribute,
    "equals": read_equals,
    "value": read_value,
    "slash": read_slash,
    "end name": read_end_name,
    "entity": read_entity,
}
