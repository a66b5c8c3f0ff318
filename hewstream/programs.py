"""Programs: what is written for each element, by modes and types."""

from hewstream.events import ascends, is_signs, is_tuple
from hewstream.tokens import MOST_ATTRIBUTES, is_name

MOST_MODES = 8
MOST_NESTED = 6
MOST_ITEMS = 60


def is_program(value):
    """True if the value is a program; it may be anything."""
    if not isinstance(value, dict) or len(value) != 3:
        return False
    if not all([key in value for key in ("start", "modes", "rules")]):
        return False
    start, modes, rules = value["start"], value["modes"], value["rules"]
    if not is_modes(modes) or not is_mode(start, modes) or not isinstance(rules, dict):
        return False
    return all([is_rule_key(key, modes) and is_rule_body(rules[key], modes) for key in rules])


def is_modes(value):
    """True if the value can be the modes of a program."""
    if not isinstance(value, dict) or not 1 <= len(value) <= MOST_MODES:
        return False
    return all([is_name(mode) and isinstance(value[mode], bool) for mode in value])


def is_mode(value, modes):
    return is_name(value) and value in modes


def is_rule_key(value, modes):
    return is_tuple(value, 2) and is_mode(value[0], modes) and is_name(value[1])


def is_rule_body(value, modes):
    """True if the value can be the body of a rule."""
    many = 0
    todo = [(value, 1)]
    while todo:
        body, nested = todo.pop()
        if not isinstance(body, tuple) or nested > MOST_NESTED or many + len(body) > MOST_ITEMS:
            return False
        many += len(body)
        for item in body:
            if not is_item(item, modes):
                return False
            todo.extend([(inner, nested + 1) for inner in inner_bodies(item)])
    return True


def is_item(value, modes):
    """True if the value can be an item, its inner bodies not looked into."""
    if not isinstance(value, tuple) or len(value) == 0 or not isinstance(value[0], str):
        return False
    kind = value[0]
    if kind in ("text", "value"):
        return is_part(value)
    if kind == "make":
        return len(value) == 4 and is_name(value[1]) and is_made_attributes(value[2])
    if kind == "each":
        return len(value) == 3 and is_mode(value[1], modes) and is_symbols(value[2])
    if kind == "if":
        return len(value) == 5 and is_name(value[1]) and (value[2] is None or is_text(value[2]))
    return False


def inner_bodies(item):
    """The tuple of the bodies within an item: in a make and an if they stand from the fourth part on."""
    return item[3:]


def is_text(value):
    """True if the value is a string of a program."""
    return is_signs(value) and "\t" not in value and "\n" not in value


def is_part(value):
    """True if the value is a text or a value, as an item or in an attribute."""
    if not is_tuple(value, 2) or not isinstance(value[0], str):
        return False
    if value[0] == "text":
        return is_text(value[1])
    return value[0] == "value" and is_name(value[1])


def is_made_attributes(value):
    """True if the value can be the attributes of a make."""
    if not isinstance(value, tuple) or len(value) > MOST_ATTRIBUTES:
        return False
    if not all([is_tuple(row, 2) and is_name(row[0]) and is_parts(row[1]) for row in value]):
        return False
    return ascends([name for name, _ in value])


def is_parts(value):
    return isinstance(value, tuple) and len(value) > 0 and all([is_part(part) for part in value])


def is_symbols(value):
    """True if the value can be the symbols of an each."""
    if not isinstance(value, tuple) or len(value) == 0:
        return False
    return all([is_name(symbol) for symbol in value]) and ascends(value)


def fits(program, grammar):
    """True if the program fits the schema of the grammar."""
    types = grammar.types()
    for mode, kind in program["rules"]:
        if kind not in types:
            return False
        known = [name for name, _ in grammar.attributes_of(kind)]
        if not all([item_fits(item, known, types) for item in items_within(body_of(program, mode, kind))]):
            return False
    return True


def is_fitting(value, grammar):
    """True if the value is a program that fits; it may be anything."""
    return is_program(value) and fits(value, grammar)


def items_within(body):
    """The list of the items of a body, those of inner bodies included."""
    found = []
    todo = [body]
    while todo:
        inner = todo.pop()
        found.extend(inner)
        for item in inner:
            todo.extend(inner_bodies(item))
    return found


def item_fits(item, known, types):
    """True if all that the item names, but for inner bodies, is among the known attributes and types."""
    if item[0] == "each":
        return all([symbol == "char" or symbol in types for symbol in item[2]])
    if item[0] == "make":
        return all([names_known(part, known) for _, parts in item[2] for part in parts])
    return names_known(item, known)


def names_known(item, known):
    """True if the attribute that a value or an if names is among the known ones; a text names none."""
    return item[0] == "text" or item[1] in known


def body_of(program, mode, kind):
    """The body of the rule, () if there is none."""
    return program["rules"].get((mode, kind), ())


def settled(body, attributes):
    """The tuple of the parts that the attributes of an element leave of a body."""
    values = dict(attributes)
    parts = []
    todo = list(body[::-1])
    while todo:
        item = todo.pop()
        if item[0] == "make":
            made = tuple([(name, "".join([written(part, values) for part in row])) for name, row in item[2]])
            parts.append(("event", ("start", item[1], made)))
            # What is put in here is a part already: it comes behind the inner body.
            todo.append(("event", ("end", item[1])))
            todo.extend(item[3][::-1])
        elif item[0] == "if":
            todo.extend(chosen(item, values)[::-1])
        elif item[0] == "each":
            parts.append(("lane", item[1], item[2]))
        elif item[0] == "event":
            parts.append(item)
        elif written(item, values) != "":
            parts.append(("event", ("signs", written(item, values))))
    return tuple(parts)


def written(part, values):
    """The string that a text or a value writes."""
    return part[1] if part[0] == "text" else values.get(part[1], "")


def chosen(item, values):
    """The body of an if that the attributes choose."""
    _, name, string, body, other = item
    if name in values and (string is None or values[name] == string):
        return body
    return other


def values_named(body):
    """A dict from each attribute in an if of the body to the list of the strings compared with it."""
    found = {}
    for item in items_within(body):
        if item[0] == "if":
            strings = found.setdefault(item[1], [])
            if item[2] is not None and item[2] not in strings:
                strings.append(item[2])
    return {name: sorted(found[name]) for name in found}
