"""Another reading of contents, by Python's regular expressions over rows of one letter for each symbol."""

import re


def letters_of(symbols):
    return {symbol: chr(0x100 + number) for number, symbol in enumerate(sorted(symbols))}


def pattern_of(content, letters):
    kind = content[0]
    if kind == "empty":
        return "(?:)"
    if kind == "chars":
        return "(?:" + letters["char"] + "*)"
    if kind == "type":
        return letters[content[1]]
    if kind in ("seq", "or"):
        return "(?:" + ("" if kind == "seq" else "|").join(pattern_of(part, letters) for part in content[1]) + ")"
    return "(?:" + pattern_of(content[1], letters) + {"star": "*", "plus": "+", "maybe": "?"}[kind] + ")"


def reader_of(content, symbols):
    """A function that tells whether a row of the symbols is one of the content."""
    letters = letters_of(list(symbols) + ["char"])
    pattern = re.compile(pattern_of(content, letters))
    return lambda row: pattern.fullmatch("".join(letters[symbol] for symbol in row)) is not None


def types_in(content):
    if content[0] == "type":
        return {content[1]}
    if content[0] in ("seq", "or"):
        return set().union(*[types_in(part) for part in content[1]])
    return types_in(content[1]) if len(content) > 1 else set()


def can_be_empty(content):
    kind = content[0]
    if kind == "seq":
        return all(can_be_empty(part) for part in content[1])
    if kind == "or":
        return any(can_be_empty(part) for part in content[1])
    return can_be_empty(content[1]) if kind == "plus" else kind != "type"


def behind(content, symbol):
    """A content of what may stand behind the symbol in rows that begin with it, or None."""
    kind = content[0]
    if kind in ("empty", "type"):
        return ("empty",) if content == ("type", symbol) else None
    if kind == "chars":
        return content if symbol == "char" else None
    if kind == "or":
        found = [rest for rest in (behind(part, symbol) for part in content[1]) if rest]
        return ("or", tuple(found)) if found else None
    if kind == "seq":
        first, *others = content[1]
        if not others:
            return behind(first, symbol)
        rest = behind(first, symbol)
        found = [("seq", (rest, *others))] if rest else []
        later = behind(("seq", tuple(others)), symbol) if can_be_empty(first) else None
        found += [later] if later else []
        return ("or", tuple(found)) if found else None
    rest = behind(content[1], symbol)
    if kind == "maybe" or rest is None:
        return rest
    return "seq", (rest, ("star", content[1]))
