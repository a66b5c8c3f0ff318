"""[3] to [6]: texts, their events, their faults and their depth."""

import random
import unittest

from hewstream.errors import BadByte, NotValid, TooDeep
from hewstream.tokens import MOST_DEPTH, MOST_NAME, Tokens, is_name, read_text
from text_oracle import fault_place, text_events

NAMES = ["a", "z", "a1", "abcdefgh", "a1234567", "z09"]
LETTERS = "abcdefghijklmnopqrstuvwxyz"
DIGITS = "0123456789"
BLANKS = " \t\n"
SIGNS = "".join(chr(code) for code in [9, 10, *range(32, 37), *range(38, 127)])

# Beginnings of texts, with all signs that can come next.
NEXT = [
    ("", BLANKS + "<"), ("<", LETTERS + "!"), ("<!", "-"), ("<!-", "-"), ("<!--", SIGNS), ("<!---", SIGNS),
    ("<!----", ">"), ("<!---->", BLANKS + "<"), ("<a", LETTERS + DIGITS + BLANKS + "/>"), ("<abcdefgh", BLANKS + "/>"),
    ("<a ", LETTERS + BLANKS + "/>"), ("<a x", LETTERS + DIGITS + "="), ("<a x1234567", "="), ("<a x=", '"'),
    ('<a x="', SIGNS.replace("<", "")), ('<a x="y', SIGNS.replace("<", "")), ('<a x="&', "lgaq"),
    ('<a x="&l', "t"), ('<a x="&lt', ";"), ('<a x="&lt;', SIGNS.replace("<", "")), ('<a x=""', BLANKS + "/>"),
    ('<a x="" ', LETTERS + BLANKS + "/>"), ('<a x="" x', LETTERS + DIGITS), ("<a/", ">"), ("<a>", SIGNS),
    ("<a><", LETTERS + "!/"), ("<a><!", "-"), ("<a><!-", "-"), ("<a><!-- ", SIGNS), ("<a><!-- --", ">"),
    ("<a>&", "lgaq"), ("<a>&g", "t"), ("<a>&gt", ";"), ("<a>&a", "m"), ("<a>&am", "p"), ("<a>&amp", ";"),
    ("<a>&q", "u"), ("<a>&qu", "o"), ("<a>&quo", "t"), ("<a>&quot", ";"), ("<a>&quot;", SIGNS), ("<a></", "a"),
    ("<ab></a", "b"), ("<a></a", BLANKS + ">"), ("<a></a\n", BLANKS + ">"), ("<a/>", BLANKS + "<"), ("<a/><", "!"),
    ("<a></a> <!---->\t", BLANKS + "<"), ("<a><b/></", "a"), ("<a><b></b>", SIGNS), ("<a><a1></", "a"),
    ("<a><a1></a", "1"), ("<a><a1></a1", BLANKS + ">"),
]
NO_NAMES = ["", "A", "1a", "abcdefghi", "a_b", "a b", "a-b", "\u00e9", "a\u00e9", "aB", "a\n", " a", "a\u0663", None, 1,
            True, b"a", ["a"], ("a",), {"a": 1}]

TEXTS = [
    '<a x="1">b&lt;<c/></a>',
    "<a/>",
    "<a></a>",
    "<abcdefgh/>",
    '<a   y="2"\n\tx="1"  b1="" >z</a \n\t>',
    '<a x="1"/>',
    '<a x="1" />',
    '<a \t\n/>',
    "\n \t<!-- c --><!----> <a> \t\n</a>\t<!--<b>&x--> \n",
    "<a><!--x--><b><!-- - - -a->--></b>c<!--->--></a>",
    "<a>&lt;&gt;&amp;&quot;>\"'</a>",
    '<a x="&lt;&gt;&amp;&quot;>\'\t\n/=--" y=">"/>',
    '<a h="1" g="2" f="3" e="4" d="5" c="6" b="7" a="8"/>',
    '<a abcdefgh="1" abcdefgi="2" abcdefg="3" b="4"/>',
    "<a><aa></aa><a2/><b><a/>t</b></a>",
    "<a>-->]]><!--&lt;<--></a>",
    "<a>!/=;#'()*+,.0:?@AZ[\\]^_`{|}~</a>",
    "<!--" + "".join(chr(code) for code in [9, 10, *range(32, 37), *range(38, 45), *range(46, 127)]) + "--><a/>",
]

# Texts that have a fault, and its place.
FAULTS = [
    ("<ab></a>", 7),
    ("<ab></b>", 6),
    ("<ab></abc>", 8),
    ("<ab></ab/>", 8),
    ("<ab></ a>", 6),
    ("<a></a b>", 7),
    ("<a></a  x>", 8),
    ("<a></>", 5),
    # behind < ahead of the root, in content, and behind the root
    ("< a/>", 1),
    ("<1/>", 1),
    ("<A/>", 1),
    ("</a>", 1),
    ("<<a/>", 1),
    ("<a><1", 4),
    ("<a>< ", 4),
    ("<a><=", 4),
    ("<a/><b/>", 5),
    ("<a/></a>", 5),
    ("<a></a>< ", 8),
    # outside of the root
    ("x<a/>", 0),
    ("&lt;<a/>", 0),
    ("<a/>x", 4),
    ("<a/> &gt;", 5),
    ("<a/><!---->-", 11),
    # comments
    ("<!a-->", 2),
    ("<!-a->", 3),
    ("<!-><a/>", 3),
    ("<a><!DOC", 5),
    ("<a><!-x", 6),
    ("<a/><!x", 6),
    ("<!-- -- --><a/>", 7),
    ("<!-----><a/>", 6),
    ("<a><!--a--b", 10),
    ("<a/><!--a---", 11),
    ("<!--a--- ", 7),
    # entities
    ("<a>&x", 4),
    ("<a>&;", 4),
    ("<a>& ", 4),
    ("<a>&lq", 5),
    ("<a>&lt ;", 6),
    ("<a>&gq", 5),
    ("<a>&gtt", 6),
    ("<a>&an", 5),
    ("<a>&amq", 6),
    ("<a>&amp:", 7),
    ("<a>&qa", 5),
    ("<a>&quet", 6),
    ("<a>&quox", 7),
    ("<a>&quot,", 8),
    ("<a>&apos;", 5),
    ("<a>&#60;", 4),
    ('<a x="&nbsp;"/>', 7),
    ('<a x="&lt"/>', 9),
    # names
    ("<abcdefghi/>", 9),
    ("<abcdefgh1/>", 9),
    ("<aB/>", 2),
    ("<a-b/>", 2),
    ("<a_/>", 2),
    ('<a abcdefghi="1"/>', 11),
    ('<a aB="1"/>', 4),
    ('<a 1="1"/>', 3),
    ("<a></abcdefghi>", 6),
    # start tags
    ('<a x ="1"/>', 4),
    ('<a x= "1"/>', 5),
    ("<a x='1'/>", 5),
    ("<a x=1/>", 5),
    ("<a x/>", 4),
    ("<a x>", 4),
    ('<a x="1"y="2"/>', 8),
    ('<a x="1""/>', 8),
    ('<a x="<"/>', 6),
    ('<a x="1"<', 8),
    ("<a/ >", 3),
    ("<a//>", 3),
    ("<a /a>", 4),
    ("<a =>", 3),
    ('<a "">', 3),
    ("<a&lt;>", 2),
    # attribute names that stand twice
    ('<a x="1" x="2"/>', 10),
    ('<a x="1" y="2" x="3"/>', 16),
    ('<a abcdefg="1" abcdefg="2"/>', 22),
    ('<a abcdefgh="1" abcdefgh="2"/>', 23),
    ('<a abcdefgh="1" abcdefg="3" abcdefgh="2"/>', 35),
    # the ninth attribute
    ('<a a="" b="" c="" d="" e="" f="" g="" h="" i=""/>', 43),
    ('<a a="" b="" c="" d="" e="" f="" g="" h="" a=""/>', 43),
    ('<a a="" b="" c="" d="" e="" f="" g="" h="" 1', 43),
]


def data_of(text):
    return [ord(sign) for sign in text]


def nested(depth, inner=""):
    return "<a>" * depth + inner + "</a>" * depth


def place_of_fault(text):
    """The place of the fault, or -1, read in one piece."""
    try:
        read_text(data_of(text))
    except BadByte as fault:
        return fault.place
    return -1


class NameTest(unittest.TestCase):
    def test_constants(self):
        self.assertEqual((MOST_DEPTH, MOST_NAME), (60, 8))

    def test_names(self):
        for name in NAMES:
            self.assertIs(is_name(name), True, name)
        for name in NO_NAMES:
            self.assertIs(is_name(name), False, name)
        for code in range(300):
            self.assertIs(is_name(chr(code)), chr(code) in LETTERS, code)
            self.assertIs(is_name("a" + chr(code)), chr(code) in LETTERS + DIGITS, code)


class EventsTest(unittest.TestCase):
    def test_example(self):
        self.assertEqual(read_text(data_of('<a x="1">b&lt;<c/></a>')), [
            ("start", "a", (("x", "1"),)), ("char", "b"), ("char", "<"), ("start", "c", ()), ("end", "c"),
            ("end", "a")])

    def test_attributes_ascend(self):
        self.assertEqual(read_text(data_of('<a b1="" c="&quot;&lt;" b="&amp;&gt;>\n"/>')), [
            ("start", "a", (("b", "&>>\n"), ("b1", ""), ("c", "\"<"))), ("end", "a")])

    def test_blanks_and_comments(self):
        self.assertEqual(read_text(data_of(" <!--x-->\n<a > <!--y-->\t\n</a\t><!--z-->\t")), [
            ("start", "a", ()), ("char", " "), ("char", "\t"), ("char", "\n"), ("end", "a")])

    def test_signs(self):
        signs = [ord(sign) for sign in "\t\n"] + [code for code in range(32, 127) if code not in (37, 38, 60)]
        events = read_text(data_of("<a>") + signs + data_of("</a>"))
        self.assertEqual(events[1:-1], [("char", chr(code)) for code in signs])
        signs.remove(34)
        events = read_text(data_of('<a x="') + signs + data_of('"/>'))
        self.assertEqual(events[0][2], (("x", "".join(chr(code) for code in signs)),))

    def test_whole_texts(self):
        for text in TEXTS:
            expected = [event for event, _ in text_events(text)]
            self.assertEqual(read_text(data_of(text)), expected, text)

    def test_each_byte_alone(self):
        for text in TEXTS:
            tokens = Tokens()
            told = []
            for place, byte in enumerate(data_of(text)):
                told.extend((event, place) for event in tokens.feed([byte]))
            self.assertIsNone(tokens.close())
            self.assertEqual(told, text_events(text), text)

    def test_cut_at_every_two_places(self):
        for text in TEXTS:
            expected = text_events(text)
            data = data_of(text)
            for first in range(len(data) + 1):
                for second in range(first, len(data) + 1, 1 if len(data) < 60 else 7):
                    tokens = Tokens()
                    bounds = [0, first, second, len(data)]
                    for begin, end in zip(bounds, bounds[1:]):
                        self.assertEqual(tokens.feed(data[begin:end]),
                                         [event for event, place in expected if begin <= place < end])
                    tokens.close()

    def test_pieces_of_no_bytes(self):
        tokens = Tokens()
        self.assertEqual(tokens.feed([]), [])
        self.assertEqual(tokens.feed(data_of("<a>&l")), [("start", "a", ())])
        self.assertEqual(tokens.feed([]), [])
        self.assertEqual(tokens.feed(data_of("t;")), [("char", "<")])
        self.assertEqual(tokens.feed(data_of("</a>")), [("end", "a")])
        self.assertEqual(tokens.feed([]), [])
        tokens.close()

    def test_nothing_passed_or_returned_is_changed(self):
        tokens = Tokens()
        data = data_of("<a>b")
        first = tokens.feed(data)
        tokens.feed(data_of("c</a>"))
        self.assertEqual(data, data_of("<a>b"))
        self.assertEqual(first, [("start", "a", ()), ("char", "b")])
        first.append("more")
        tokens.close()
        data = data_of("<a/>")
        read_text(data)
        self.assertEqual(data, data_of("<a/>"))

    def test_two_readers_do_not_meet(self):
        one, other = Tokens(), Tokens()
        one.feed(data_of('<a x="1'))
        other.feed(data_of("<b><c"))
        self.assertEqual(one.feed(data_of('"/>')), [("start", "a", (("x", "1"),)), ("end", "a")])
        self.assertEqual(other.feed(data_of("/></b>")), [("start", "c", ()), ("end", "c"), ("end", "b")])

    def test_no_list_of_integers(self):
        for data in (None, b"<a/>", "<a/>", tuple(data_of("<a/>")), 60, {60: 1}, [60.0], [True], [False], ["<"],
                     [None], [[60]], data_of("<a/>") + [True], data_of("x") + ["x"]):
            with self.assertRaises(NotValid):
                read_text(data)
            with self.assertRaises(NotValid):
                Tokens().feed(data)


class FaultsTest(unittest.TestCase):
    def test_places(self):
        for text, place in FAULTS:
            self.assertEqual(place_of_fault(text), place, text)
            self.assertEqual(fault_place(text), place, text)

    def test_every_byte(self):
        for text, signs in NEXT:
            for byte in range(-2, 260):
                try:
                    Tokens().feed(data_of(text) + [byte])
                    told = -1
                except BadByte as fault:
                    told = fault.place
                right = 0 <= byte < 128 and chr(byte) in signs
                self.assertEqual(told, -1 if right else len(text), (text, byte))

    def test_places_in_pieces(self):
        for text, place in FAULTS:
            tokens = Tokens()
            tokens.feed(data_of(text)[:place])
            with self.assertRaises(BadByte) as caught:
                tokens.feed(data_of(text)[place:])
            self.assertEqual(caught.exception.place, place, text)

    def test_bytes_that_are_none(self):
        bad = [-1, 0, 8, 11, 13, 31, 37, 127, 128, 255, 256, 1000000000000, -1000000000000]
        for text in ("", "<", "<a", "<a ", "<a x", '<a x="', '<a x="&', "<a>", "<a>&", "<a><!", "<a><!--", "<a><!---",
                     "<a></a", "<a></a ", "<a/>", "<a/"):
            for byte in bad:
                with self.assertRaises(BadByte) as caught:
                    read_text(data_of(text) + [byte] + data_of("x"))
                self.assertEqual(caught.exception.place, len(text))

    def test_texts_that_end_too_early(self):
        for text in TEXTS:
            for end in range(len(text)):
                if text_events(text[:end]) is None:
                    self.assertEqual(place_of_fault(text[:end]), end, text[:end])
                else:
                    self.assertEqual(place_of_fault(text[:end]), -1, text[:end])

    def test_close_in_pieces(self):
        for text in ("", " ", "<!--", "<a>", "<a", "<a/><!-", "<a/><", "<a></a", '<a x="'):
            tokens = Tokens()
            for byte in data_of(text):
                tokens.feed([byte])
            with self.assertRaises(BadByte) as caught:
                tokens.close()
            self.assertEqual(caught.exception.place, len(text))

    def test_every_byte_behind_every_beginning(self):
        signs = "\t\n !\"&'-/019;<=>?AZ_aghlmopqtuxz"
        for text in TEXTS[:-2]:
            for end in range(len(text)):
                for sign in signs:
                    if place_of_fault(text[:end] + sign) == end:
                        self.assertEqual(fault_place(text[:end] + sign), end, text[:end] + sign)
                    else:
                        self.assertNotEqual(fault_place(text[:end] + sign), end, text[:end] + sign)

    def test_spoiled_texts(self):
        chance = random.Random(5)
        for _ in range(3000):
            text = chance.choice(TEXTS)
            at = chance.randrange(len(text))
            put = "".join(chance.choice(" <>&/!-;\"=axl1") for _ in range(chance.randrange(3)))
            text = text[:at] + put + text[at + chance.randrange(3):]
            expected = text_events(text)
            self.assertEqual(place_of_fault(text), fault_place(text), text)
            if expected is not None:
                self.assertEqual(read_text(data_of(text)), [event for event, _ in expected], text)


class DepthTest(unittest.TestCase):
    def test_most_depth(self):
        self.assertEqual(len(read_text(data_of(nested(60)))), 120)
        self.assertEqual(len(read_text(data_of(nested(59, "<b/><b/>")))), 122)
        self.assertEqual(len(read_text(data_of(nested(59, "<b></b><b/>x")))), 123)

    def test_one_more(self):
        for inner in ("<b></b>", "<b/>", "<!-- --><b/>", "x<b x=", "<b"):
            text = nested(60, inner)
            place = 180 + inner.index("b")
            with self.assertRaises(TooDeep) as caught:
                read_text(data_of(text))
            self.assertEqual(caught.exception.place, place)
            tokens = Tokens()
            tokens.feed(data_of(text[:place]))
            with self.assertRaises(TooDeep) as caught:
                tokens.feed(data_of(text[place]))
            self.assertEqual(caught.exception.place, place)

    def test_faults_at_the_most_depth(self):
        for inner in ("<1", "< ", "<="):
            self.assertEqual(place_of_fault("<a>" * 60 + inner), 181)
        self.assertEqual(place_of_fault(nested(60) + "<b/>"), 421)


if __name__ == "__main__":
    unittest.main()
