"""Another reading of texts, by regular expressions over the whole of them: slow, and plainly point [3]."""

import re

SIGN = r"[\t\n -$&-~]"
NAME = r"[a-z][a-z0-9]{0,7}"
BLANK = r"[\t\n ]"
ENTITY = r"&(?:lt|gt|amp|quot);"
VALUE = r'(?:[\t\n !#$\'-;=-~]|' + ENTITY + r")*"
PAIR = BLANK + "+(" + NAME + ')="(' + VALUE + ')"'
COMMENT = r"<!--(?:(?!-)" + SIGN + r"|-(?!-)" + SIGN + r")*-->"
START = "<(" + NAME + ")((?:" + BLANK + "+" + NAME + '="' + VALUE + '")*)' + BLANK + "*(/?)>"
END = "</(" + NAME + ")" + BLANK + "*>"
TOKEN = re.compile("|".join(["(?P<comment>" + COMMENT + ")", "(?P<start>" + START + ")", "(?P<end>" + END + ")",
                             "(?P<entity>" + ENTITY + ")", r"(?P<sign>[\t\n -$'-;=-~])"]))
SIGNS = {"&lt;": "<", "&gt;": ">", "&amp;": "&", "&quot;": '"'}


def plain(text):
    return re.sub(ENTITY, lambda found: SIGNS[found.group()], text)


def scan(text):
    """(events, open names, root seen) of a row of whole tokens, the events as (event, last byte); or None."""
    events, names, seen, at = [], [], False, 0
    while at < len(text):
        found = TOKEN.match(text, at)
        if not found:
            return None
        at = found.end()
        kind = found.lastgroup
        if found.group("start"):
            start = re.fullmatch(START, found.group())
            pairs = re.findall(PAIR, start.group(2))
            keys = [key for key, _ in pairs]
            if (seen and not names) or len(pairs) > 8 or len(set(keys)) < len(keys):
                return None
            seen = True
            attributes = tuple(sorted((key, plain(value)) for key, value in pairs))
            events.append((("start", start.group(1), attributes), at - 1))
            if start.group(3):
                events.append((("end", start.group(1)), at - 1))
            else:
                names.append(start.group(1))
        elif found.group("end"):
            name = re.fullmatch(END, found.group()).group(1)
            if not names or names.pop() != name:
                return None
            events.append((("end", name), at - 1))
        elif kind in ("entity", "sign"):
            if names:
                events.append((("char", plain(found.group())), at - 1))
            elif kind == "entity" or found.group() not in " \t\n":
                return None
    return events, names, seen


def text_events(text):
    """The list of (event, last byte) of a text, or None if it is none. Depth is not looked at."""
    found = scan(text)
    if found is None or found[1] or not found[2]:
        return None
    return found[0]


TAILS = ["", "a/>", "<a/>", "<!---->", "!---->", "---->", "--->", "-->", "->", "x-->", ">", "/>", '=""/>', 'x=""/>',
         '""/>', '"/>', ";", "lt;", "t;", "gt;", "amp;", "mp;", "p;", "quot;", "uot;", "ot;"]
TAILS += [tail + '"/>' for tail in TAILS if tail.endswith(";")]


def is_beginning(text):
    """True if some continuation is a text: one token is ended, then the open elements are."""
    words = sorted(set(re.findall("[a-z][a-z0-9]*", text)))
    tails = TAILS + [word[cut:] + ">" for word in words for cut in range(len(word) + 1)]
    tails += ["/" + word + ">" for word in words]
    for tail in tails:
        found = scan(text + tail)
        if found is None:
            continue
        _, names, seen = found
        rest = "".join("</" + name + ">" for name in reversed(names)) + ("" if seen else "<a/>")
        if text_events(text + tail + rest) is not None:
            return True
    return False


def fault_place(text):
    """The place of the first fault of a text, or -1: the byte behind which no continuation is a text."""
    if text_events(text) is not None:
        return -1
    low, high = 0, len(text)
    while low < high:
        middle = (low + high) // 2
        if is_beginning(text[:middle + 1]):
            low = middle + 1
        else:
            high = middle
    return low
