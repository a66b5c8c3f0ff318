"""[80] to [83]: words, held forms, machines made anew, and words that are not taken."""

import random
import re
import unittest

from frame_oracle import Made, elements_of
from hewstream.completions import events_of, least_to
from hewstream.errors import BadByte, NotDocument, NotValid, TooMany
from hewstream.events import is_sign
from hewstream.facts import Facts
from hewstream.held import hold, read_word, resume, write_word
from hewstream.machine import Machine
from hewstream.schemas import Grammar, is_schema
from hewstream.tokens import Tokens
from program_oracle import random_document, random_program
from samples import ODD_CONTENTS
from schema_oracle import random_schema, small_content
from shorthand import char, events_in, grammar_of, program_of, refused, signs


def word(text):
    return [ord(sign) for sign in text]


def deep(value):
    """The value as a string, however deep it is nested."""
    return bytes(write_word(value)).decode()


class WordTest(unittest.TestCase):
    ROWS = [(0, "n0;"), (7, "n7;"), (10, "n10;"), (999999999, "n999999999;"), ("", "t0:"), ("a", "t1:a"), ("a<", "t2:a<"),
            ("()n;:", "t5:()n;:"), ("\t\n ", "t3:\t\n "), ("0123456789", "t10:0123456789"), (None, "o"), ((), "()"), ((1,), "(n1;)"),
            ((5, "a<", None), "(n5;t2:a<o)"), (((), ((),), (None, ())), "(()(())(o()))"), ((0, (0, (0, "x"))), "(n0;(n0;(n0;t1:x)))")]

    def test_words(self):
        for value, text in self.ROWS:
            self.assertEqual(write_word(value), word(text))
            self.assertEqual(read_word(word(text)), value)
            self.assertIs(type(read_word(word(text))), type(value))

    def test_deep(self):
        value = ()
        for _ in range(5000):
            value = (value, 1)
        told = write_word(value)
        self.assertEqual(bytes(told), b"(" * 5001 + b")" + b"n1;)" * 5000)
        self.assertEqual(write_word(read_word(told)), told)

    def fault(self, text, place):
        self.assertEqual(refused(self, BadByte, read_word, word(text)).place, place, text)

    def test_faults(self):
        for text, place in (("", 0), ("x", 0), (")", 0), (" n0;", 0), ("n", 1), ("n;", 1), ("n-1;", 1), ("n 1;", 1), ("n1", 2), ("n1:", 2), ("n1a;", 2),
                            ("n01;", 2), ("n00;", 2), ("n1234567890;", 10), ("n999999999", 10), ("t", 1), ("t:", 1), ("t1;a", 2), ("t01:a", 2),
                            ("t00:", 2), ("t0", 2), ("t0;", 2), ("t1:", 3), ("t2:a", 4), ("t3:ab", 5), ("t1:ab", 4), ("t0:a", 3), ("t1:%", 3),
                            ("t2:a%", 4), ("t9999999999:", 10), ("t999999999:abc", 14), ("(", 1), ("(n1;", 4), ("(()", 3), ("())", 2), ("oo", 1),
                            ("(o", 2), ("n1;n1;", 3), ("()()", 2), ("(n1;,n2;)", 4), ("(x)", 1), ("(t5:ab)", 7), ("n1;\n", 3)):
            self.fault(text, place)
        for byte in (0, 8, 11, 13, 31, 37, 127, 200, -1, 300):
            for text in ("", "n", "n1", "t", "t1:", "(", "t2:a"):
                self.assertEqual(refused(self, BadByte, read_word, [*word(text), byte]).place, len(text))

    def test_each_byte(self):
        """A byte that is left out, put in or changed: the fault is the first byte from which no continuation is a word."""
        chance = random.Random(81)
        for value, text in self.ROWS:
            for _ in range(60):
                at = chance.randrange(len(text) + 1)
                other = chance.choice("()nto0195:;x%\t ")
                changed = chance.choice([text[:at] + text[at + 1:], text[:at] + other + text[at:], text[:at] + other + text[at + 1:]])
                place = fault_in(changed)
                if place < 0:
                    self.assertEqual(write_word(read_word(word(changed))), word(changed))
                else:
                    self.fault(changed, place)

    def test_what_is_no_list_of_integers(self):
        for value in [*ODD_CONTENTS, "o", b"o", (111,), ["o"], [111.0], [None], [True], [111, None], [[111]], range(3)]:
            if value != []:
                refused(self, NotValid, read_word, value)
        self.assertEqual(refused(self, BadByte, read_word, []).place, 0)


def fault_in(text):
    """The first place behind which no continuation is a word, by trying to end the beginning."""
    for end in range(1, len(text) + 1):
        if not can_begin(text[:end]):
            return end - 1
    return -1 if is_word(text) else len(text)


def is_word(text):
    return rest_of(text) == ""


def rest_of(text):
    """What stands behind the first word, or None."""
    found = re.match(r"o|n(?:0|[1-9][0-9]{0,8});", text)
    if found:
        return text[found.end():]
    found = re.match(r"t(0|[1-9][0-9]{0,8}):", text)
    if found:
        end = found.end() + int(found.group(1))
        if end <= len(text) and all(is_sign(sign) for sign in text[found.end():end]):
            return text[end:]
        return None
    if text[:1] != "(":
        return None
    text = text[1:]
    while text is not None and text[:1] != ")":
        text = rest_of(text)
    return None if text is None else text[1:]


def can_begin(text):
    tails = ["", ";", "0;", "o", ":", "0:"]
    for nested in range(text.count("(") + 1):
        for tail in tails:
            if is_word(text + tail + ")" * nested):
                return True
    # A string that is not ended: an empty one could stand in its place.
    for found in re.finditer(r"t(0|[1-9][0-9]{0,8})(:?)", text):
        rest = text[found.end():]
        if len(rest) <= int(found.group(1)) and all(is_sign(sign) for sign in rest) and (found.group(2) or not rest):
            if any(is_word(text[:found.start()] + "t0:" + ")" * nested) for nested in range(text.count("(") + 1)):
                return True
    return False


class HeldCase(unittest.TestCase):
    def made(self, grammar, program, events):
        machine = Machine(grammar, program)
        for event in events:
            machine.event(event)
        return machine

    def same(self, machine, other):
        self.assertEqual((machine.kept(), machine.frames(), machine.depth(), machine.wholly()),
                         (other.kept(), other.frames(), other.depth(), other.wholly()))
        self.assertEqual(machine.shape(), other.shape())


class HoldTest(HeldCase):
    GRAMMAR = grammar_of("root a\na = a @x : (b | c | chars)*\nb = b : chars\nc = c @y! : (b | c)*, d?\nd = d : empty\n")
    PROGRAM = program_of('rule m a { "<" each m ( b ) @ x each n ( c ) "|" each m ( char ) ">" } rule m b { "b" each m ( char ) "." } '
                         'rule n c { make p { each m ( b ) each n ( c ) } each m ( d ) } rule m d { "d" }')

    def check(self, text, expected):
        """The held form behind the events of the beginning of a document."""
        events = self.beginning(text)
        machine = self.made(self.GRAMMAR, self.PROGRAM, events)
        told = hold(machine)
        self.assertEqual(read_word(told), expected)
        self.assertEqual(told, write_word(expected))
        self.assertEqual(hold(machine), told)
        self.same(resume(self.GRAMMAR, self.PROGRAM, told), machine)

    def beginning(self, text):
        return Tokens().feed(word(text))

    def test_before_and_behind(self):
        self.check("", (0, (), None))
        self.check("<a/>", (2, (), None))
        self.check("<a>xy<b/></a>", (6, (), None))

    def test_root(self):
        row = ("a", (("x", "v"),), 0, 0)
        self.check('<a x="v">', (1, (row,), (1, (((), None),) * 3)))
        self.check('<a x="v">pq', (3, (row,), (1, (((), None), ((), None), ((char("p", 1), char("q", 2)), None)))))
        # What the closed b has given has left: its lane is the first live one.
        self.check('<a x="v">p<b>q</b>', (5, (row,), (1, (((), None), ((), None), ((char("p", 1),), None)))))
        self.check("<a><b>q</b>", (4, (("a", (), 0, 0),), (1, (((), None),) * 3)))

    def test_open_children(self):
        # The b's own event has left, its lane is the first live one.
        self.check("<a><b>q", (3, (("a", (), 0, 0), ("b", (), 1, 0)), (1, (((), (1, (((), None),))), ((), None), ((), None)))))
        # A c stands behind the live lane for b: its frame keeps what has come, and nothing of it has left.
        inner = (0, (((), None), ((), None), ((), None)))
        rows = (("a", (), 0, 0), ("c", (("y", ""),), 1, 0))
        self.check('<a><c y="">', (2, rows, (1, (((), None), ((), inner), ((), None)))))
        told = (signs("b", 2), char("1", 3), signs(".", 2))
        inner = (0, ((told, None), ((), None), ((), None)))
        self.check('<a><c y=""><b>1</b>', (5, rows, (1, (((), None), ((), inner), ((), None)))))
        # An ended c is what it gave, in the order of the output.
        whole = ((("start", "p", ()), 1), *told, (("end", "p"), 1), signs("d", 5))
        self.check('<a><c y=""><b>1</b><d/></c>', (8, (("a", (), 0, 0),), (1, (((), None), (whole, None), ((), None)))))

    def test_a_state_behind_which_lanes_are_dead(self):
        grammar = grammar_of("root a\na = a : b*, c\nb = b : chars\nc = c : b*\n")
        program = program_of('rule m a { "1" each m ( b ) "2" each m ( c ) "3" } rule m b { "b" } rule m c { "(" each m ( b ) ")" }')
        machine = self.made(grammar, program, self.beginning("<a><b/><c>"))
        self.assertEqual(read_word(hold(machine)), (4, (("a", (), 0, 1), ("c", (), 3, 0)), (3, (((), None), ((), (1, (((), None),)))))))
        machine = self.made(grammar, program, self.beginning("<a><b/><c></c>"))
        # Nothing more can come: all has left.
        self.assertEqual(read_word(hold(machine)), (5, (("a", (), 0, 1),), (5, (((), None), ((), None)))))

    def test_frames_ahead_and_behind(self):
        grammar = grammar_of("root a\na = a : b\nb = b : chars\n")
        program = program_of('rule m a { each d ( b ) "-" each m ( b ) "+" each m ( b ) } rule d b { "d" } rule m b { "m" each m ( char ) }')
        machine = self.made(grammar, program, self.beginning("<a><b>x"))
        self.assertEqual(read_word(hold(machine)), (3, (("a", (), 0, 1), ("b", (), 1, 0)), (
            2, (((), (1, ())), ((), (1, (((), None),))), ((), (0, (((char("x", 2),), None),)))))))

    def test_elements_without_frames(self):
        grammar = grammar_of("root a\na = a : b?\nb = b : a?\n")
        program = program_of('rule m a { "x" }')
        machine = self.made(grammar, program, self.beginning("<a><b><a>"))
        self.assertEqual(read_word(hold(machine)), (3, (("a", (), 0, 1), ("b", (), 1, 1), ("a", (), 2, 0)), (1, ())))

    def test_deep(self):
        grammar = grammar_of("root a\na = a : a*\n")
        program = program_of('rule m a { "x" each m ( a ) "y" }')
        machine = self.made(grammar, program, [("start", "a", ())] * 990)
        told = hold(machine)
        other = resume(grammar, program, told)
        self.assertEqual(hold(other), told)
        self.assertEqual((other.frames(), other.depth(), other.kept()), (990, 990, 0))
        for _ in range(990):
            self.assertEqual(other.event(("end", "a")), machine.event(("end", "a")))
        self.assertIs(other.wholly(), True)
        machine = self.made(grammar, program, [("start", "a", ())] * 1000)
        refused(self, TooMany, resume(grammar, program, hold(machine)).event, ("start", "a", ()))


class RandomTest(HeldCase):
    def test_goes_on(self):
        chance = random.Random(80)
        seen = {"kept": 0, "open": 0, "later": 0}
        for _ in range(500):
            grammar = Grammar(random_schema(chance, small_content, is_schema))
            program = random_program(chance, grammar)
            document = random_document(chance, grammar, chance.randrange(1, 20))
            facts = Facts(grammar, program)
            try:
                self.made(grammar, program, document)
            except TooMany:
                continue
            machine = Machine(grammar, program)
            chosen = chance.randrange(len(document) + 1)
            for number in range(len(document) + 1):
                told = hold(machine)
                self.check_form(facts, document[:number], told)
                other = resume(grammar, program, told)
                self.assertEqual(hold(other), told)
                self.same(machine, other)
                seen["open"] += machine.depth() > 1
                if number == chosen:
                    seen["kept"] += machine.kept() > 0
                    seen["later"] += self.go_on(machine, other, document[number:])
                    break
                machine.event(document[number])
        self.assertGreater(min(seen.values()), 25, seen)

    def go_on(self, machine, other, events):
        """Both go on in the same way; true if something leaves."""
        told = []
        for event in events:
            left = machine.event(event)
            self.assertEqual(other.event(event), left)
            self.same(machine, other)
            self.assertEqual(hold(other), hold(machine))
            told += left
        self.assertIs(other.wholly(), True)
        return told != []

    def check_form(self, facts, events, told):
        """The held form from frames made anew."""
        if events:
            root, around = elements_of(facts.grammar, events)
            rows = tuple((element.kind, element.attributes, element.place, element.state) for element in around)
            form = None
            if around:
                form, _ = form_of(Made(facts, facts.program["start"], root), True)
        else:
            rows, form = (), None
        self.assertEqual(read_word(told), (len(events), rows, form))


def form_of(frame, ahead):
    """The held form of a frame that was made anew, and whether no live lane has come yet behind it."""
    at, lanes = None, []
    begun = ahead
    for index, part in enumerate(frame.parts):
        if part[0] == "event":
            continue
        come, inner = [], None
        for child in part[4]:
            if isinstance(child, tuple):
                come += [] if ahead else [child]
            elif child.element.ended:
                come += [] if ahead else [row[:2] for row in child.written()]
            else:
                inner, still = form_of(child, ahead)
                if ahead and not still:
                    at = index
                ahead = still
        if part[3]:
            at = index if ahead else at
            ahead = False
        lanes.append((tuple(come), inner))
    if not begun:
        at = 0
    return (len(frame.parts) if at is None else at, tuple(lanes)), ahead


class RefusedTest(HeldCase):
    GRAMMAR, PROGRAM = HoldTest.GRAMMAR, HoldTest.PROGRAM

    def setUp(self):
        # In the root's lane for c an ended c, and an open one that holds an ended b.
        events = events_in('<a x="v">p<c y="1"><b>q</b></c><c y="2"><b>r</b><c y="3"/></c></a>')
        self.events = events
        self.machine = self.made(self.GRAMMAR, self.PROGRAM, events[:11])
        self.value = read_word(hold(self.machine))

    def check(self, value, taken=False):
        data = write_word(value)
        if not taken:
            refused(self, NotValid, resume, self.GRAMMAR, self.PROGRAM, data)
            return
        machine = resume(self.GRAMMAR, self.PROGRAM, data)
        self.assertEqual(hold(machine), data)
        # It goes on to an end.
        told = []
        for kind, state in machine.shape()[0][::-1]:
            row = least_to(self.GRAMMAR, kind, state, list(self.GRAMMAR.automaton(kind)[0]))
            for event in [*events_of(self.GRAMMAR, row), ("end", self.GRAMMAR.name_of(kind))]:
                told += machine.event(event)
        self.assertIs(machine.wholly(), True)
        self.assertEqual(machine.kept(), 0)
        return told

    def test_value(self):
        first, second = (char("p", 1),), ((("start", "p", ()), 2), signs("b", 3), char("q", 4), signs(".", 3), (("end", "p"), 2))
        inner = (0, (((signs("b", 8), char("r", 9), signs(".", 8)), None), ((), None), ((), None)))
        self.assertEqual(self.value, (11, (("a", (("x", "v"),), 0, 0), ("c", (("y", "2"),), 7, 0)), (
            1, (((), None), (second, inner), (first, None)))))
        self.check(self.value, True)

    def changed(self, number=None, rows=None, form=None):
        return (self.value[0] if number is None else number, self.value[1] if rows is None else rows,
                self.value[2] if form is None else form)

    def test_forms(self):
        for value in (None, 5, "x", (), self.value[:2], (*self.value, None), ("11", *self.value[1:]), (None, *self.value[1:]),
                      ((11,), *self.value[1:]), (11, None, self.value[2]), (11, "ab", self.value[2]), (11, 2, self.value[2]), (11, self.value[1], 0),
                      (11, self.value[1], None), (11, self.value[1], ()), (11, self.value[1], "x")):
            self.check(value)

    def test_numbers(self):
        self.check(self.changed(number=12), True)
        self.check(self.changed(number=999999), True)
        # An event has the place 9, the greatest one.
        self.check(self.changed(number=10), True)
        for number in (0, 1, 7, 8, 9):
            self.check(self.changed(number=number))

    def test_no_element_is_open(self):
        for number in (0, 2, 3, 1000):
            machine = resume(self.GRAMMAR, self.PROGRAM, write_word((number, (), None)))
            self.assertEqual((machine.wholly(), machine.depth(), machine.shape()), (number > 0, 0, ((), None)))
            self.assertEqual(hold(machine), write_word((number, (), None)))
        machine = resume(self.GRAMMAR, self.PROGRAM, write_word((0, (), None)))
        self.assertEqual([row for event in events_in('<a x="v"/>') for row in machine.event(event)],
                         [signs("<", 0), signs("v", 0), signs("|", 0), signs(">", 0)])
        self.assertEqual(refused(self, NotDocument, machine.event, ("start", "a", ())).number, 2)
        self.check((1, (), None))
        for form in ((), 0, (0, ()), (0, (((), None),) * 3), ""):
            self.check((2, (), form))
            self.check((0, (), form))

    def test_rows(self):
        root, child = self.value[1]
        for rows in ((root,), (child,), (child, root), (root, child, child), (root, root), (root, None), (root, ()), (root, child[:3]), (root, (*child, 0)),
                     (root, list(child)[0]), ((1, *root[1:]), child), (("z", *root[1:]), child), (("b", *root[1:]), child), (("", *root[1:]), child),
                     (root, ("a", *child[1:])), (root, ("b", (), 7, 0)), (root, ("d", (), 7, 0)), (root, ("char", (), 7, 0))):
            self.check(self.changed(rows=rows))

    def test_attributes(self):
        root, child = self.value[1]
        for attributes in ((), (("y", ""),), (("x", ""), ("y", "")), (("x", ""), ("x", "")), None, "", 0, ((),), (("x",),), (("x", 1),), (("x", None),),
                           (("x", "", ""),), ("x",), (("X", ""),)):
            self.check(self.changed(rows=((root[0], attributes, *root[2:]), child)), attributes == ())
        self.check(self.changed(rows=((root[0], (("x", "other <"),), *root[2:]), child)), True)
        for attributes in ((), (("x", ""),), (("x", ""), ("y", "")), (("y", ""), ("y", ""))):
            self.check(self.changed(rows=(root, (child[0], attributes, *child[2:]))))
        self.check(self.changed(rows=(root, (child[0], (("y", "new"),), *child[2:]))), True)

    def test_places(self):
        root, child = self.value[1]
        for place in (0, 11, 12, "7", None, (), ""):
            self.check(self.changed(rows=(root, (*child[:2], place, 0))))
        for place in (1, 6, 8, 10):
            self.check(self.changed(rows=(root, (*child[:2], place, 0))), True)
        for place in (1, 7, 6, "0", None):
            self.check(self.changed(rows=((*root[:2], place, 0), child)))

    def test_states(self):
        root, child = self.value[1]
        for state in (1, 2, 99, "0", None, ()):
            self.check(self.changed(rows=((*root[:3], state), child)))
        # Behind a d nothing more can come: what stands ahead of the other live lane has not left.
        self.check(self.changed(rows=(root, (*child[:3], 1))), True)
        for state in (2, 3, "0", None, ()):
            self.check(self.changed(rows=(root, (*child[:3], state))))

    def test_how_far_frames_have_left(self):
        _, (first, (second, inner), third) = self.value[2]
        for at in (0, 2, 3, 4, 5, 7, 9, "1", None, ()):
            self.check(self.changed(form=(at, (first, (second, inner), third))))
        for at in (1, 2, 3, 5, 9, "0", None):
            self.check(self.changed(form=(1, (first, (second, (at, inner[1])), third))))

    def test_lanes(self):
        at, (first, (second, inner), third) = self.value[2]
        lanes = (first, (second, inner), third)
        for other in (lanes[:2], lanes + (third,), (), None, "abc", 3, (first, None, third), (first, (second,), third), (first, (second, inner, None), third),
                      (first, (second, None), third), (first, inner, third), ((first[0], inner), (second, inner), third),
                      (first, (second, inner), (third[0], inner)), (first, (second, (0, ())), third), (first, (second, (0,)), third),
                      (first, (second, (0, inner[1], ())), third), (first, (second, (0, inner[1][:2])), third),
                      (first, (second, (0, inner[1] + (((), None),))), third), (first, (second, (0, inner[1][:2] + (((), (0, ())),))), third),
                      (first, (None, inner), third), (first, ("", inner), third), (first, (0, inner), third)):
            self.check(self.changed(form=(at, other)))

    def test_events(self):
        at, (first, (second, inner), third) = self.value[2]
        for row in (char("p", 11), char("p", 12), (("char", "pq"), 1), (("char", ""), 1), (("signs", ""), 1), (("signs", 1), 1), (("start", "p"), 1),
                    (("start", "P", ()), 1), (("start", "p", (("x", "1"), ("a", "2"))), 1), (("end", ""), 1), (("text", "x"), 1), ("char", 1), (None, 1),
                    ((), 1), (("char", "p"),), (("char", "p"), 1, 1), (("char", "p"), "1"), (("char", "p"), None), None, "ab", 1, ()):
            self.check(self.changed(form=(at, (first, (second, inner), ((row,), None)))))
            self.check(self.changed(form=(at, (first, (second + (row,), inner), third))))
        for row in (char("\t", 10), signs("long string", 0), (("start", "p", (("x", "1"),)), 3), (("end", "p"), 0)):
            for many in (0, 1, 3):
                told = self.check(self.changed(form=(at, (first, (second, inner), ((row,) * many, None)))), True)
                self.assertEqual(told.count(row), many)
            self.check(self.changed(form=(at, (first, ((), inner), third))), True)
            # Nothing stands ahead of the first live lane.
            self.check(self.changed(form=(at, (((row,), None), (second, inner), third))))

    def test_ahead_in_the_whole_order(self):
        grammar = grammar_of("root a\na = a : b\nb = b : c, d\nc = c : empty\nd = d : chars\n")
        program = program_of('rule m a { each d ( b ) each m ( b ) } rule d b { each d ( c ) each m ( d ) } rule m b { each m ( c ) each m ( d ) } '
                             'rule d c { "d" } rule m c { "m" } rule m d { each m ( char ) }')
        machine = self.made(grammar, program, events_in("<a><b><c/><d/></b></a>")[:5])
        number, rows, form = read_word(hold(machine))
        inner, other = (1, (((), None), ((), (0, (((), None),))))), (0, (((signs("m", 2),), None), ((), (0, (((), None),)))))
        self.assertEqual((number, form), (5, (0, (((), inner), ((), other)))))
        for lanes, taken in ((((), inner), ((), other)), True), ((((signs("m", 2),), inner), ((), other)), False), (
                (((), (1, (((signs("m", 2),), None), inner[1][1]))), ((), other)), False), ((((), inner), ((signs("m", 2),), other)), True), (
                (((), (1, (inner[1][0], ((signs("m", 2),), inner[1][1][1])))), ((), other)), False), (
                (((), (1, (inner[1][0], ((), (0, (((signs("m", 2),), None),)))))), ((), other)), False):
            data = write_word((number, rows, (0, lanes)))
            if taken:
                self.assertEqual(hold(resume(grammar, program, data)), data)
            else:
                refused(self, NotValid, resume, grammar, program, data)

    def test_bytes_and_programs(self):
        data = hold(self.machine)
        for at in range(len(data)):
            shorter = data[:at]
            self.assertEqual(refused(self, BadByte, resume, self.GRAMMAR, self.PROGRAM, shorter).place, at)
        self.assertEqual(refused(self, BadByte, resume, self.GRAMMAR, self.PROGRAM, data + [32]).place, len(data))
        for value in (None, "o", tuple(data), [None], [True]):
            refused(self, NotValid, resume, self.GRAMMAR, self.PROGRAM, value)
        refused(self, NotValid, resume, grammar_of("root a\na = a : chars\n"), self.PROGRAM, data)
        refused(self, NotValid, resume, self.GRAMMAR, {}, data)
        refused(self, NotValid, resume, self.GRAMMAR, program_of(""), data)
        refused(self, NotValid, resume, self.GRAMMAR, {**self.PROGRAM, "start": "n"}, data)
        self.assertEqual(deep((1, ())), "(n1;())")

    def test_each_byte_that_is_changed(self):
        """What is taken is held with the same bytes."""
        chance = random.Random(83)
        data = hold(self.machine)
        taken = 0
        for _ in range(1500):
            at = chance.randrange(len(data))
            other = chance.choice([data[:at] + data[at + 1:], [*data[:at], chance.choice(data), *data[at:]],
                                   [*data[:at], chance.choice(data), *data[at + 1:]]])
            try:
                machine = resume(self.GRAMMAR, self.PROGRAM, other)
            except (BadByte, NotValid):
                continue
            self.assertEqual(hold(machine), other)
            taken += 1
        self.assertGreater(taken, 20)


if __name__ == "__main__":
    unittest.main()
