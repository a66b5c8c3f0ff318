"""[84] to [90]: states, parts of pieces, joins in every bracketing, what is told, forms and widths."""

import random
import unittest

from hewstream.cuttings import STATES, Part, join_parts, next_state, run_text, tell_text
from hewstream.errors import NotValid
from hewstream.schemas import Grammar, is_schema
from hewstream.tokens import read_text
from hewstream.validator import validate
from program_oracle import random_document
from samples import ODD_CONTENTS
from schema_oracle import random_schema, small_content
from shorthand import grammar_of, refused
from text_oracle import fault_place, text_events

SIGNS = grammar_of("root a\na = a : chars\n")
MIXED = grammar_of("root a\na = a @x @y : (a | b | chars)*\nb = b @x! : a*, c?\nc = c : empty\n")
# From each state some token ends within these bytes.
ENDS = '>>">;-->'


def word(text):
    return [ord(sign) for sign in text]


def pieces_at(data, cuts):
    return [data[begin:end] for begin, end in zip([0, *cuts], [*cuts, len(data)])]


def joined(chance, parts):
    """All parts joined, in some bracketing."""
    parts = list(parts)
    while len(parts) > 1:
        at = chance.randrange(len(parts) - 1)
        parts[at:at + 2] = [join_parts(parts[at], parts[at + 1])]
    return parts[0]


def size(value):
    """How many numbers, signs of strings and so on a form has."""
    if isinstance(value, tuple):
        return 1 + sum(size(part) for part in value)
    return 1 + len(value) if isinstance(value, str) else 1


class StatesTest(unittest.TestCase):
    def test_names(self):
        self.assertEqual(STATES, ("text", "less", "bang", "bangs", "comment", "dash", "dashes", "tag", "value", "entity"))

    def test_states(self):
        rows = {"text": ({"<": "less", "&": "entity"}, "text"), "less": ({"!": "bang"}, "tag"), "bang": ({}, "bangs"), "bangs": ({}, "comment"),
                "comment": ({"-": "dash"}, "comment"), "dash": ({"-": "dashes"}, "comment"), "dashes": ({}, "text"),
                "tag": ({'"': "value", ">": "text"}, "tag"), "value": ({'"': "tag"}, "value"), "entity": ({";": "text"}, "entity")}
        self.assertEqual(sorted(rows), sorted(STATES))
        for state, (singles, others) in rows.items():
            for sign in '<&!-">;':
                self.assertEqual(next_state(state, ord(sign)), singles.get(sign, others), (state, sign))
            for byte in (97, 32, 10, 37, 0, 255, 47, 61, -1, 1000):
                self.assertEqual(next_state(state, byte), others)


class CutCase(unittest.TestCase):
    def told(self, grammar, text):
        """What one run tells, from other readings; depth is not looked at."""
        place = fault_place(text)
        events = text_events(text[:place] if place >= 0 else text)
        if place >= 0:
            return None
        whole = [event for event, _ in events]
        index, _ = validate(grammar, whole)
        return ("event", index) if index >= 0 else ("valid", len(whole))

    def check(self, grammar, text, expected=None, chance=None):
        data = word(text)
        told = run_text(grammar, data)
        if expected is not None:
            self.assertEqual(told, expected, text)
        whole = Part(grammar, data)
        self.assertEqual(tell_text(whole), told, text)
        form, width = whole.form(), whole.width()
        for cut in range(len(data) + 1):
            left, right = Part(grammar, data[:cut]), Part(grammar, data[cut:])
            kept = left.form(), right.form(), left.width(), right.width(), tell_text(left), tell_text(right)
            part = join_parts(left, right)
            self.assertEqual((part.form(), part.width(), tell_text(part)), (form, width, told), (text, cut))
            self.assertEqual((left.form(), right.form(), left.width(), right.width(), tell_text(left), tell_text(right)), kept)
        chance = chance or random.Random(len(text))
        for many in range(2, 6):
            cuts = sorted(chance.randrange(len(data) + 1) for _ in range(many))
            part = joined(chance, [Part(grammar, piece) for piece in pieces_at(data, cuts)])
            self.assertEqual((part.form(), part.width(), tell_text(part)), (form, width, told), (text, cuts))
        return whole


class TellTest(CutCase):
    def test_example(self):
        left, right = Part(SIGNS, word("<a>x<!-")), Part(SIGNS, word("- > --></a>"))
        self.assertEqual((left.width(), right.width()), ((0, 1, 3), (1, 0, 0)))
        self.assertEqual(tell_text(join_parts(left, right)), ("valid", 3))
        self.assertEqual(tell_text(right), ("byte", 0))
        self.assertEqual(tell_text(left), ("byte", 7))

    def test_texts(self):
        for text, many in (("<a/>", 2), ("<a></a>", 2), (" <a>x</a>\n\t", 3), ("<!-- x --><a x='1'/>".replace("'", '"'), 2), ("<a><b x=\"\"><a/></b>y&lt;</a>", 8),
                           ("<a><!--<b>--></a><!---->", 2), ('<a x=">" y="a/>"></a>', 2), ('<a  x="&quot;&amp;"\n y="&gt;" ><a/></a >', 4),
                           ("<a>-->&gt;\"></a>", 8), ("<a><b x=\"-->\"><c/></b></a>", 6), ("<a>" + " " * 5 + "</a>" + " " * 5, 7)):
            self.check(MIXED, text, ("valid", many))
            self.assertEqual(len(read_text(word(text))), many)

    def test_too_early(self):
        for text in ("", " ", "<", "<a", "<a>", "<a></", "<a></a", "<!-", "<!-- x", "<!-- x --", "<a x", '<a x="', '<a x="1"', "<a>&", "<a>&l", "<a>x", "<a/", "<!---->",
                     '<a><b x=""><a/>', "<a>\n"):
            self.check(MIXED, text, ("byte", len(text)))

    def test_bytes(self):
        for text, place in (("x", 0), (" x<a/>", 1), ("&lt;<a/>", 0), ("</a>", 1), ("<a/>x", 4), ("<a/> &", 5), ("<a/></a>", 5), ("<a/><a/>", 5), ("<a></a>\n<b>", 9), ("<1>", 1),
                            ("<>", 1), ("< a>", 1), ("<a></b>", 5), ("<a></ab>", 6), ("<a></ a>", 5), ("<a></a b>", 7), ("<a></a/>", 6), ("<a ></a\n\t x>", 10), ("<a><a></ab>", 9),
                            ("<!x", 2), ("<!-x", 3), ("<!-- -- >", 7), ("<!--->", 6), ("<!----->", 6), ("<a>&x;</a>", 4), ("<a>&lt ;", 6), ("<a>&ltt;", 6),
                            ("<a>&;", 4), ("<a x>", 4), ('<a x ="1">', 4), ("<a x=1>", 5), ('<a x="<">', 6), ('<a x="&x">', 7), ('<a x="1"y="2">', 8), ('<a x="1" x="2">', 10),
                            ("<a//>", 3), ("<a/ >", 3), ("<abcdefghi>", 9), ('<a xbcdefghi="">', 11), ("<a>%</a>", 3), ("%", 0), ("<a%>", 2), ("<!--%-->", 4), ('<a x="%">', 6),
                            ("<a>x%</a>%", 4), ("<a>>\"'</a>>", 10), ('<a "x>">', 3), ("<a><!-></a>-->", 6), ("<a x='1'>", 5), ('<a x="">"</a>"', 13)):
            self.check(MIXED, text, ("byte", place))
            self.assertEqual(fault_place(text), place)

    def test_attributes(self):
        eight = " ".join(f'k{number}=""' for number in range(8))
        grammar = grammar_of("root a\na = a " + " ".join(f"@k{number}" for number in range(8)) + " : chars\n")
        self.check(grammar, f"<a {eight}/>", ("valid", 2))
        self.check(grammar, f'<a {eight} k9="">', ("byte", len(eight) + 4))
        self.check(grammar, f'<a {eight} k0="">', ("byte", len(eight) + 4))
        self.check(grammar, '<a abcdefgh="" abcdefgh="">', ("byte", 22))

    def test_other_integers(self):
        for byte in (-1, 0, 8, 11, 13, 31, 37, 127, 128, 255, 256, 100000):
            for text in ("", "<a>", "<a>x", "<a", '<a x="', "<!--", "<!-- -", "<a>&", "<a>&l", "</", "<", "<!", "<a/>"):
                data = [*word(text), byte, *word(ENDS)]
                place = 1 if text == "</" else len(text)
                for cut in range(len(data) + 1):
                    part = join_parts(Part(MIXED, data[:cut]), Part(MIXED, data[cut:]))
                    self.assertEqual(tell_text(part), ("byte", place))
                    self.assertEqual(part.form(), Part(MIXED, data).form())
                self.assertEqual(run_text(MIXED, data), ("byte", place))

    def test_events(self):
        for text, number in (("<b/>", 0), ("<a><c/></a>", 1), ("<a><b/></a>", 1), ('<a z=""/>', 0), ("<a>x<b x=''>y</b></a>".replace("'", '"'), 3), ('<a><b x=""><c/><a/></b></a>', 4),
                             ('<a><b x=""><c>x</c></b></a>', 3), (" \n<!---->\t<b/>", 0), ("  <a><c/></a> ", 1), ('  <a>  <c/></a>', 3)):
            self.check(MIXED, text, ("event", number))
        for text, number in (("<a></a>", 1), ("<a>x</a>", 1), ("<a><b/></a>", 3), ("<a><b/><b/></a>", 5), ("<a><b/><b/><b/></a>", 5), (" <a> </a>", 1)):
            self.check(grammar_of("root a\na = a : b, b, c?\nb = b : empty\nc = c : empty\n"), text, ("event", number) if number != 5 or text.count("<b") == 3 else ("valid", 6))

    def test_which_comes_first(self):
        # An event that cannot come, ahead of a byte and behind one.
        self.check(MIXED, "<a><c/>%</a>", ("event", 1))
        self.check(MIXED, "<a>%<c/></a>", ("byte", 3))
        self.check(MIXED, "<a><c%/></a>", ("byte", 5))
        self.check(MIXED, '<a><c/></b>', ("event", 1))
        self.check(MIXED, "<b></a>", ("event", 0))
        self.check(MIXED, "<ab></a>", ("event", 0))
        self.check(grammar_of("root a\na = ab : chars\n"), "<ab></a>", ("byte", 7))
        self.check(MIXED, "<b><1", ("event", 0))
        self.check(MIXED, "<b", ("byte", 2))
        self.check(MIXED, "x<b/>", ("byte", 0))
        self.check(MIXED, "<b/>x", ("event", 0))
        # The tag is told with its last byte only.
        self.check(MIXED, "<b x>", ("byte", 4))
        self.check(MIXED, "<a><b x=\"\">z</a>", ("event", 2))
        self.check(MIXED, "<a/><b/>", ("byte", 5))
        self.check(MIXED, "<a/><b", ("byte", 5))
        self.check(MIXED, "<a/><1", ("byte", 5))
        self.check(MIXED, "<a/><b x>", ("byte", 5))
        self.check(MIXED, "<a/>&x;", ("byte", 4))
        self.check(MIXED, "&x;", ("byte", 0))

    def test_depth(self):
        grammar = grammar_of("root a\na = a : (a | chars)*\n")
        for many in (59, 60, 61, 62, 70):
            text = "<a>" * many + "</a>" * many
            expected = ("valid", 2 * many) if many <= 60 else ("deep", 3 * 60 + 1)
            self.deep(grammar, text, expected)
        down = "<a>" * 60
        for more, expected in (("<", ("byte", 181)), ("<a", ("deep", 181)), ("<!---->", ("byte", 187)), ("<1", ("byte", 181)), ("<a x", ("deep", 181)), ("<a/>", ("deep", 181)),
                               ("x<b>", ("deep", 182)), ("%<a>", ("byte", 180)), ("&x;<a>", ("byte", 181)), ("</a><a>", ("byte", 187)), ("</a><a><a>", ("deep", 188)),
                               ("</a></a><a/><a><a/></a>", ("byte", 203)), ("</a></a><a/><a><a><a", ("deep", 199)), ("</b><a>", ("byte", 182))):
            self.deep(grammar, down + more, expected)
        # An event that cannot come is told ahead of it, or behind it.
        self.deep(grammar, "<a>" * 59 + "<b><a>", ("event", 59))
        self.deep(grammar, "<a>" * 60 + "<b>", ("deep", 181))
        # The same where the root is ended.
        self.deep(grammar, "<a>" * 61 + "<b/>" + "</a>" * 61, ("deep", 181))
        self.deep(grammar, "<a>" * 60 + "<b/>" + "</a>" * 60, ("deep", 181))
        self.deep(grammar, "<a>" * 59 + "<b/>" + "<a>" * 2 + "</a>" * 61, ("event", 59))
        self.deep(grammar, "  <a>" + "<a>" * 60 + "<b/>" + "</a>" * 61, ("deep", 183))
        self.deep(grammar, "<a>" * 30 + "x<b/>" + "<a>" * 40, ("event", 31))
        self.deep(grammar, "<a>" * 30 + "<a/>" * 5 + "<a>" * 31, ("deep", 90 + 20 + 91))

    def deep(self, grammar, text, expected):
        data = word(text)
        self.assertEqual(run_text(grammar, data), expected)
        whole = Part(grammar, data)
        self.assertEqual(tell_text(whole), expected)
        chance = random.Random(len(text))
        for _ in range(6):
            cuts = sorted(chance.randrange(len(data) + 1) for _ in range(chance.randrange(1, 5)))
            part = joined(chance, [Part(grammar, piece) for piece in pieces_at(data, cuts)])
            self.assertEqual((tell_text(part), part.form()), (expected, whole.form()))

    def test_parts_that_are_deep_by_themselves(self):
        grammar = grammar_of("root a\na = a : a*\n")
        for ups, downs, more in ((0, 30, 30), (5, 34, 25), (5, 34, 27), (20, 60, 0), (20, 61, 0), (30, 90, 0), (3, 63, 62)):
            # So many elements are open ahead of the piece.
            for ahead in (ups, ups + 1, 40, 60):
                pieces = ["<a>" * ahead, "</a>" * ups + "<a>" * downs, "<a>" * more + "</a>" * (more + downs), "</a>" * max(0, ahead - ups)]
                self.deep(grammar, "".join(pieces), run_text(grammar, word("".join(pieces))))
                parts = [Part(grammar, word(piece)) for piece in pieces]
                middle = join_parts(parts[1], parts[2])
                self.assertEqual(middle.form(), Part(grammar, word(pieces[1] + pieces[2])).form())
                part = join_parts(parts[0], join_parts(middle, parts[3]))
                self.assertEqual(part.form(), Part(grammar, word("".join(pieces))).form())

    def test_nothing(self):
        chance = random.Random(89)
        nothing = Part(MIXED, [])
        self.assertEqual((nothing.width(), tell_text(nothing)), ((0, 0, 0), ("byte", 0)))
        for text in ("", "<a>", "</a>", "x", "<!-", '">', "&l", "--", "t;", "<a x=\"", "%", "<a/><a/>"):
            part = Part(MIXED, word(text))
            for other in (join_parts(part, nothing), join_parts(nothing, part)):
                self.assertEqual((other.form(), other.width(), tell_text(other)), (part.form(), part.width(), tell_text(part)))
        self.assertEqual(joined(chance, [nothing] * 4).form(), nothing.form())

    def test_what_is_no_list_of_integers(self):
        for value in ODD_CONTENTS + ["<a/>", b"<a/>", (60, 97), ["<"], [60.0], [None], [60, True], range(3), [[60]]]:
            if value != []:
                refused(self, NotValid, Part, MIXED, value)
                refused(self, NotValid, run_text, MIXED, value)


def changed(chance, text):
    """The text with something left out, put in or changed."""
    at = chance.randrange(len(text) + 1)
    sign = chance.choice("<>/&;!-\"=abex %\t1")
    which = chance.randrange(5)
    if which == 0:
        return text[:at] + text[at + 1:]
    if which == 1:
        return text[:at] + sign + text[at:]
    if which == 2:
        return text[:at] + sign + text[at + 1:]
    if which == 3:
        return text[:at] + text[chance.randrange(len(text) + 1):]
    return text + chance.choice([" ", "<!--x-->", "x", "<a/>", "<", "&lt;", "</a>", "<e>"])


def random_text(chance, grammar):
    """The text of some document, with comments and blanks."""
    words = []
    for event in random_document(chance, grammar, chance.randrange(1, 14), signs="x<& \"->"):
        if event[0] == "start":
            words.append("<" + event[1])
            for name, value in event[2]:
                value += chance.choice(["", "", "&lt;", ">", "&quot;", "- -->", "a b", "/>"])
                words.append(chance.choice([" ", "  ", "\n"]) + name + '="' + value + '"')
            words.append(chance.choice(["", "", " "]) + ">")
        elif event[0] == "end":
            words.append("</" + event[1] + chance.choice(["", "", " "]) + ">")
        else:
            words.append({"<": "&lt;", "&": "&amp;"}.get(event[1], event[1]))
        if chance.random() < 0.1:
            words.append(chance.choice(["<!---->", "<!-- a -->", "<!-- - <a> \"-->", "<!--&lt;->-->"]))
    text = "".join(words)
    return chance.choice(["", "", "", " ", "<!--x-->", "\n "]) + text + chance.choice(["", "", "", " ", "<!--x-->"])


class RandomTest(CutCase):
    def test_texts(self):
        chance = random.Random(84)
        seen = {"valid": 0, "event": 0, "byte": 0}
        for _ in range(240):
            grammar = Grammar(random_schema(chance, small_content, is_schema))
            text = random_text(chance, grammar)
            while chance.random() < 0.4:
                text = changed(chance, text)
            if chance.random() < 0.4:
                # One more element, which mostly cannot come.
                at = chance.randrange(len(text))
                at += text[at:].find("<") if "<" in text[at:] else 0
                text = text[:at] + "<" + grammar.name_of(chance.choice(grammar.types())) + "/>" + text[at:]
            if len(text) > 70:
                continue
            told = self.told(grammar, text)
            part = self.check(grammar, text, told, chance)
            told = tell_text(part)
            seen[told[0]] += 1
            if told[0] == "byte":
                # No event ahead of it is one that cannot come.
                self.assertEqual(told[1], fault_place(text))
        self.assertGreater(min(seen.values()), 25, seen)

    def test_any_bytes(self):
        chance = random.Random(85)
        for _ in range(250):
            text = "".join(chance.choice("<<<>>//&;!--\"\"=aaebxlt; %") for _ in range(chance.randrange(22)))
            self.check(MIXED, text, None, chance)

    def test_middles(self):
        # Pieces of texts, from which something else is read in each state.
        chance = random.Random(87)
        for _ in range(150):
            grammar = Grammar(random_schema(chance, small_content, is_schema))
            text = random_text(chance, grammar)
            begin = chance.randrange(len(text))
            self.check(grammar, text[begin:begin + chance.randrange(40)], None, chance)

    def test_associative(self):
        chance = random.Random(88)
        for _ in range(120):
            grammar = Grammar(random_schema(chance, small_content, is_schema))
            words = [random_text(chance, grammar) for _ in range(4)]
            words = [text[chance.randrange(len(text)):][:chance.randrange(25)] for text in words]
            one, two, three, four = [Part(grammar, word(text)) for text in words]
            forms = [part.form() for part in (
                join_parts(join_parts(join_parts(one, two), three), four), join_parts(join_parts(one, two), join_parts(three, four)),
                join_parts(join_parts(one, join_parts(two, three)), four), join_parts(one, join_parts(join_parts(two, three), four)),
                join_parts(one, join_parts(two, join_parts(three, four))), Part(grammar, word("".join(words))))]
            self.assertEqual(forms, forms[:1] * 6)


class FormTest(unittest.TestCase):
    def plain(self, value):
        if isinstance(value, tuple):
            return all(self.plain(part) for part in value)
        return value is None or type(value) in (int, str)

    def test_plain_values(self):
        for text in ("", "<a>", "x</a>", "<!- <a", '<a><b/></a>%', "</a><a>x"):
            form = Part(MIXED, word(text)).form()
            self.assertTrue(self.plain(form))
            self.assertIs(type(form), tuple)
            # By equal grammars forms are equal.
            self.assertEqual(Part(grammar_of("c = c : empty\nb = b @x! : a*, c?\na = a @y @x : (a | b | chars)*\nroot a\n"), word(text)).form(), form)

    def test_forms_tell_all(self):
        """Parts of which something else is told, whatever is joined to them, have other forms."""
        texts = ["", "<a>", "</a>", "</b>", "<a/>", "<b/>", "x", " ", "<a>x", "<!--", "<a x", "&l", "&g", "<", "%", "</a></a>", "<a><a>", "</a><a>", "x</a>", '<a x="">', "<a >",
                 "<a></b>", "<a/><a/>"]
        parts = [Part(MIXED, word(text)) for text in texts]
        for one in parts:
            for other in parts:
                if one.form() == other.form():
                    for left in parts:
                        for right in parts:
                            self.assertEqual(tell_text(join_parts(join_parts(left, one), right)), tell_text(join_parts(join_parts(left, other), right)))

    def test_whole_elements_do_not_make_it_longer(self):
        for state in STATES[1:]:
            for byte in word(ENDS):
                state = next_state(state, byte) if state != "text" else state
            self.assertEqual(state, "text")
        unit = '<b x="1 &gt; 0">' + "<a/>" * 3 + "</b>text &lt;<!-- a - comment --><a>yy<a/></a>"
        for ahead, behind in (("", ""), ("<a>", "</a>"), ("<a><a>x", ""), ("x</a></a>", "<a>"), ("", "<a x"), ("<!-- - -->", '<a x="1')):
            sizes = []
            for many in (2, 3, 10, 100):
                part = Part(MIXED, word(ENDS + ahead + unit * many + behind))
                sizes.append(size(part.form()))
                parts = [Part(MIXED, word(text)) for text in (ENDS + ahead, unit * many, behind)]
                self.assertEqual(join_parts(join_parts(parts[0], parts[1]), parts[2]).form(), part.form())
            self.assertLessEqual(max(sizes), sizes[0])

    def test_tags_that_are_not_matched_do(self):
        for text in ("<a>", "</a>"):
            sizes = [size(Part(MIXED, word(text * many)).form()) for many in (1, 5, 20)]
            self.assertEqual(sizes, sorted(set(sizes)))

    def test_width(self):
        for text, width in (("", (0, 0, 0)), ("x <!-- -->&lt;", (0, 0, 0)), ("<a>", (0, 1, 0)), ("</a>", (1, 0, 0)), ("</a><b></c><d>", (1, 1, 0)),
                            ("<a></a>", (0, 0, 0)), ("<a/>", (0, 0, 0)), ("</a></b>x</c><d><e/><f>", (3, 2, 0)), ("</a", (0, 0, 3)), ("<", (0, 0, 1)), ("x&am", (0, 0, 3)),
                            ("<a><!-- <b> </a>", (0, 1, 13)), ('<a><b x="></a>', (0, 1, 11)), ("</a x=\">\">", (1, 0, 0)), ("</1><a>", (1, 1, 0)),
                            # Behind a fault nothing is kept.
                            ("<a><b></a><c><d", (0, 2, 0)), ("</a>%</a><a><a", (1, 0, 0)), ("<a><b x></b></a><c", (0, 1, 0)), ("<a>&x;</a></a>", (0, 1, 0)),
                            # Events that cannot come, and depth, are no such faults.
                            ("<z>" * 70, (0, 70, 0)), ("<b>x</b></a>", (1, 0, 0)), ("<c><c>", (0, 2, 0)), ("x<!-x--><a>", (0, 0, 0)), ("<!-x--", (0, 0, 6))):
            self.assertEqual(Part(MIXED, word(text)).width(), width, text)


if __name__ == "__main__":
    unittest.main()
