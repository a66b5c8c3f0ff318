"""What stands of the output in a machine, told by numbers of events instead of the events.

A row is a flat tuple of: a number of events that are written and have not left; less than 0, a
number of events that stand behind a live lane of their own frame and are not written yet; a live
lane, as a string; and "(" and ")" around the frame of the open child in a lane. What has come into
a lane stands before it. Dead lanes, what has left, and the brackets of frames without live lanes
in them are left out. The frame of the root stands without brackets.
"""

BEGIN = "("
END = ")"


def lane_word(mode, symbols):
    """The string for a lane in rows."""
    return mode + " " + " ".join(symbols)


def fresh_row(facts, mode, kind, attributes):
    """The row of a frame of an element that has just begun."""
    tokens = []
    for part in facts.parts(mode, kind, attributes):
        if part[0] == "event":
            tokens.append(-1)
        elif facts.live(part[1], part[2], kind, 0):
            tokens.append(lane_word(part[1], part[2]))
    return normal_row(tokens)


class Frame:
    """What has been read of one frame of a row."""

    def __init__(self):
        self.tokens = []
        # Whether a lane of the frame itself, or one of a frame in it, has come.
        self.is_blocking = False
        self.has_lane = False


def normal_row(tokens):
    """The row of the tokens, with what is written now and without brackets that hold no live lane."""
    frames = [Frame()]
    for token in tokens:
        frame = frames[-1]
        if token == BEGIN:
            frames.append(Frame())
        elif token == END:
            frames.pop()
            add_frame(frames[-1], frame)
        elif isinstance(token, int):
            add_number(frame, token if frame.is_blocking else abs(token))
        else:
            frame.tokens.append(token)
            frame.is_blocking = True
            frame.has_lane = True
    return tuple(frames[0].tokens)


def add_number(frame, number):
    """Adds a number of events to a frame."""
    last = frame.tokens[-1] if frame.tokens else ""
    if isinstance(last, int) and (last > 0) == (number > 0):
        frame.tokens[-1] = last + number
    else:
        frame.tokens.append(number)


def add_frame(frame, inner):
    """Adds an inner frame that has been read to a frame; written events at its sides stand outside of it."""
    tokens = inner.tokens
    if not inner.has_lane:
        add_written(frame, tokens)
        return
    ahead, behind = written_sides(tokens)
    add_written(frame, tokens[:ahead])
    frame.tokens.extend([BEGIN] + tokens[ahead:behind] + [END])
    frame.has_lane = True
    add_written(frame, tokens[behind:])


def written_sides(tokens):
    """The index of the first and the index behind the last token that is no number of written events."""
    behind = len(tokens)
    if is_written(tokens[-1]):
        behind -= 1
    return 1 if is_written(tokens[0]) else 0, behind


def is_written(token):
    return isinstance(token, int) and token > 0


def add_written(frame, tokens):
    """Adds numbers of written events to a frame."""
    for token in tokens:
        add_number(frame, token)


def is_lane(token):
    return isinstance(token, str) and token not in (BEGIN, END)


def without_left(row):
    """The row without the events ahead of its first live lane, as these leave."""
    lanes = [index for index, token in enumerate(row) if is_lane(token)]
    if not lanes:
        return ()
    return tuple([token for token in row[:lanes[0]] if token == BEGIN]) + row[lanes[0]:]


def kept_in(row):
    """The number of the events that are kept."""
    return sum([token for token in row if is_written(token)])


def row_behind(row, level, coming, alive):
    """The row behind an event of the element at this level, the root being at 1.

    Coming has for lanes the tokens that come into them; alive are the lanes that are live behind it.
    """
    tokens = []
    at = 1
    for token in row:
        if token == BEGIN:
            at += 1
        elif token == END:
            at -= 1
        elif at == level and is_lane(token):
            tokens.extend(coming.get(token, ()))
            if token not in alive:
                continue
        tokens.append(token)
    return without_left(normal_row(tokens))
