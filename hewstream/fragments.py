"""Beginnings, middles and ends of tokens, of which no more is kept than what can matter.

A fragment is a tuple of the tuples (place, byte) that are kept. What is left out has no meaning
whatever stands around the fragment: what stands in comments and in values, blanks behind blanks,
and all that stands behind a byte at which or ahead of which there is a fault for certain.
"""

from hewstream.errors import BadByte
from hewstream.tokens import BLANKS, ENTITIES, LETTERS, MOST_ATTRIBUTES, MOST_NAME, NAME_SIGNS, Tokens, sign_of

# What is being read in each state. Behind "&", in content, and "=", in values, stand the letters of an entity.
READINGS = {
    "text": ("text",),
    "less": ("less",),
    "bang": ("bang",),
    "bangs": ("bangs",),
    "comment": ("comment",),
    "dash": ("dash",),
    "dashes": ("dashes",),
    "tag": ("name", "gap", "attribute", "equals", "valued", "slash", "end", "end name", "end gap"),
    "value": ("value", "="),
    "entity": ("&",),
}
# What signs lead to; the token ends with what leads to "".
STEPS = {
    "text": (("<", "less"), ("&", "&")),
    "less": (("letters", "name"), ("/", "end"), ("!", "bang")),
    "bang": (("-", "bangs"),),
    "bangs": (("-", "comment"),),
    "comment": (("-", "dash"), ("others", "comment")),
    "dash": (("-", "dashes"), ("others", "comment")),
    "dashes": ((">", ""),),
    "name": (("names", "name"), ("blanks", "gap"), ("/", "slash"), (">", "")),
    "gap": (("letters", "attribute"), ("blanks", "gap"), ("/", "slash"), (">", "")),
    "attribute": (("names", "attribute"), ("=", "equals")),
    "equals": (("\"", "value"),),
    "value": (("\"", "valued"), ("&", "="), ("<", "fault"), ("others", "value")),
    "valued": (("blanks", "gap"), ("/", "slash"), (">", "")),
    "slash": ((">", ""),),
    "end": (("letters", "end name"),),
    "end name": (("names", "end name"), ("blanks", "end gap"), (">", "")),
    "end gap": (("blanks", "end gap"), (">", "")),
}
FAULT = "fault"
NAMES = ("name", "attribute", "end name")
GAPS = ("gap", "end gap")


def readings_in(state):
    """The list of what can be read in a state."""
    found = []
    for reading in READINGS[state]:
        found.append(reading)
        if reading in ("&", "="):
            found.extend([reading + entity[:many] for entity in ENTITIES for many in range(1, len(entity))])
    return sorted(set(found))


def reading_behind(reading, sign):
    """What is read behind a sign; "" if it ends the token."""
    if reading[0] in "&=":
        return entity_behind(reading, sign)
    for signs, behind in STEPS[reading]:
        if is_among(sign, signs):
            return behind
    return FAULT


def is_among(sign, signs):
    if signs == "letters":
        return sign in LETTERS
    if signs == "names":
        return sign in NAME_SIGNS
    if signs == "blanks":
        return sign in BLANKS
    return signs == "others" or sign == signs


def entity_behind(reading, sign):
    """The same within an entity."""
    word = reading[1:] + sign
    if word in ENTITIES:
        return "" if reading[0] == "&" else "value"
    if any([entity.startswith(word) for entity in ENTITIES]):
        return reading[0] + word
    return FAULT


class Look:
    """How far a fragment has been read."""

    def __init__(self, state):
        self.readings = readings_in(state)
        self.kept = []
        # How much was kept where the comment or the value began that is being read, -1 outside of one.
        self.mark = 0 if state == "comment" else -1
        # How many signs of a name, and how many attributes, have come for certain.
        self.many_signs = 0
        self.many_attributes = 0
        self.has_fault = False


def fragment_of(state, marks):
    """The fragment for the tuples (place, byte), which are read from this state on."""
    look = Look(state)
    for mark in marks:
        take(look, mark)
        if look.has_fault:
            break
    return tuple(look.kept)


def take(look, mark):
    """Goes on by a byte."""
    sign = sign_of(mark[1])
    before = look.readings
    behind = []
    if sign != "":
        behind = sorted(set([reading_behind(reading, sign) for reading in before]))
    behind = [reading for reading in behind if reading != FAULT]
    look.kept.append(mark)
    count_signs(look, before, behind)
    if not behind or look.many_signs > MOST_NAME or look.many_attributes > MOST_ATTRIBUTES:
        look.has_fault = True
        return
    if behind == before and are_among(before, GAPS):
        look.kept.pop()
    elif behind in (["comment"], ["value"]):
        if look.mark < 0:
            look.mark = len(look.kept)
        look.kept = look.kept[:look.mark]
    elif not all([reading in ("dash", "dashes") or reading[:1] == "=" for reading in behind]):
        look.mark = -1
    look.readings = behind


def are_among(readings, names):
    return all([reading in names for reading in readings])


def count_signs(look, before, behind):
    """Counts the signs of names and the attributes."""
    look.many_signs = look.many_signs + 1 if behind and are_among(behind, NAMES) else 0
    if are_among(before, GAPS) and behind == ["attribute"]:
        look.many_attributes += 1


def shifted(fragment, many):
    """The fragment with places that are greater by so many."""
    return tuple([(place + many, byte) for place, byte in fragment])


def read_fragment(names, marks):
    """Reads a whole token, or a beginning of one, within elements of these names.

    Returns the place of its fault, -1 if there is none, and the list of its events.
    """
    tokens = Tokens()
    tokens.names = names
    tokens.reading = "content"
    events = []
    for place, byte in marks:
        tokens.place = place
        try:
            events.extend(tokens.feed([byte]))
        except BadByte:
            return place, events
    return -1, events
