"""[45], [46]: chains of one, two and three links, their places, and outputs between that are no valid documents."""

import copy
import random
import unittest

from hewstream.chains import Chain, plain_chain
from hewstream.errors import NotDocument, NotValid, TooMany
from hewstream.machine import Machine
from hewstream.plain import plain_output
from hewstream.schemas import Grammar, read_schema
from hewstream.syntax import parse_program
from hewstream.tokens import read_text
from hewstream.validator import validate
from program_oracle import plain_meaning, random_document, random_program
from samples import ODD_CONTENTS, Same


def events_in(text):
    return read_text([ord(sign) for sign in text])


def link(schema, rules, modes="mode m keeps mode d drops"):
    return Grammar(read_schema(schema)), parse_program("start m " + modes + " " + rules)


# Elements with any children and signs, and programs between them.
ANY = "root a\na = a @x @y : (a | b | chars)*\nb = b @x @y : (a | b | chars)*\n"
COPY = ('rule m a { if @ x { make a ( x = @ x ) { each m ( a , b , char ) } } else { make a { each m ( a , b , char ) } } } '
        'rule m b { if @ x { make b ( x = @ x ) { each m ( a , b , char ) } } else { make b { each m ( a , b , char ) } } }')
TWICE = ('rule m a { make a { each m ( b ) "<" each d ( a , b , char ) each m ( a , char ) @ x } } rule m b { "b&" @ x make b { '
         'each m ( char ) } } rule d b { "d" each m ( char ) }')


def meaning(links, document):
    """The plain meanings one after the other; None if an output between is no valid document."""
    rows = [(event, place) for place, event in enumerate(document)]
    for index, (grammar, program) in enumerate(links):
        read = [(event, place) for output, place in rows for event in
                ([("char", sign) for sign in output[1]] if output[0] == "signs" else [output])]
        events = [event for event, _ in read]
        if index and validate(grammar, events) != (-1, ""):
            return None
        rows = [(output, read[at][1]) for output, at in plain_meaning(grammar, program, events)]
    return rows


class ChainCase(unittest.TestCase):
    def run_chain(self, links, document):
        """All that leaves, and the number of the event at which NotDocument is raised, or None."""
        chain = Chain(links)
        told = []
        for number, event in enumerate(document):
            self.assertIs(chain.wholly(), False)
            try:
                told += chain.event(event)
            except NotDocument as fault:
                return told, fault.number
            self.assertIs(chain.wholly(), number == len(document) - 1)
        self.assertEqual(chain.kept(), 0)
        return told, None

    def check(self, links, document, expected=None):
        """The chain gives the meaning of its links."""
        told = meaning(links, document)
        if expected is not None:
            self.assertEqual(told, expected)
        left, fault = self.run_chain(links, document)
        if told is None:
            self.assertIsNotNone(fault)
            with self.assertRaises(NotDocument) as caught:
                plain_chain(links, document)
            self.assertEqual(caught.exception.number, len(document))
        else:
            self.assertEqual((left, fault), (told, None))
            self.assertEqual(plain_chain(links, document), told)
        return told, fault


class OutputTest(ChainCase):
    def test_one_link(self):
        for rules in (COPY, TWICE):
            grammar, program = link(ANY, rules)
            document = events_in('<a x="1">p<b x="&lt;">q</b><a/>r</a>')
            told, _ = self.check([(grammar, program)], document)
            self.assertEqual(told, plain_output(grammar, program, document))

    def test_example(self):
        # Each element is written anew with its signs and children: a second time nothing changes.
        document = events_in('<a>p<b x="1">q<a/></b>r</a>')
        once, _ = self.check([link(ANY, COPY)], document)
        self.assertEqual(once, [(("start", "a", ()), 0), (("char", "p"), 1), (("start", "b", (("x", "1"),)), 2),
                                (("char", "q"), 3), (("start", "a", ()), 4), (("end", "a"), 4), (("end", "b"), 2),
                                (("char", "r"), 7), (("end", "a"), 0)])
        for many in (2, 3, 4):
            self.check([link(ANY, COPY)] * many, document, once)

    def test_places_of_the_first_document(self):
        first = link("root r\nr = r : s*\ns = s : chars\n",
                     'rule m r { make a { each m ( s ) make b { } each d ( s ) } } rule m s { "xy" } rule d s { each m ( char ) }')
        second = link("root a\na = a : chars, b, chars\nb = b : empty\n",
                      'rule m a { make c { each m ( b ) each m ( char ) } } rule m b { "b" }')
        third = link("root c\nc = c : chars\n", 'rule m c { each m ( char ) "." each m ( char ) }')
        document = events_in("<r><s>1</s><s/><s>23</s></r>")
        # The places: r 0, s 1, 1 at 2, s 4, s 6, 2 at 7, 3 at 8.
        told = [(("char", "b"), 0)] + [(("char", sign), place) for place in (1, 4, 6) for sign in "xy"] + [
            (("char", sign), place) for sign, place in (("1", 2), ("2", 7), ("3", 8))]
        self.check([first, second, third], document, told + [(("signs", "."), 0)] + told)
        self.check([first, second], document, [(("start", "c", ()), 0), (("signs", "b"), 0), *told[1:], (("end", "c"), 0)])

    def test_chars_of_a_signs_event(self):
        first = link("root r\nr = r @v! : s?\ns = s : empty\n", 'rule m r { make a { each m ( s ) @ v } } rule m s { "<&>" }')
        second = link("root a\na = a : chars\n", "rule m a { each m ( char ) each m ( char ) }")
        row = [(("char", sign), place) for sign, place in (("<", 1), ("&", 1), (">", 1), ("u", 0), ("v", 0))]
        self.check([first, second], events_in('<r v="uv"><s/></r>'), row + row)

    def test_what_leaves_and_what_is_kept(self):
        first = link("root r\nr = r : (s | t)*\ns = s : empty\nt = t : empty\n",
                     'rule m r { make a { each m ( s ) each m ( t ) } } rule m s { make s { } } rule m t { "t" }')
        second = link("root a\na = a : s*, chars\ns = s : empty\n", 'rule m a { each m ( char ) each m ( s ) } rule m s { "s" }')
        chain = Chain([first, second])
        for event, left, kept in zip(events_in("<r><t/><s/></r>"), [[], [], [], [], [], [
                (("char", "t"), 1), (("signs", "s"), 3)]], [0, 1, 1, 2, 2, 0]):
            self.assertEqual(chain.event(event), left)
            self.assertEqual(chain.kept(), kept)

    def test_the_last_output_need_not_be_a_document(self):
        self.check([link(ANY, COPY), link(ANY, 'rule m a { "x" each m ( char ) }')], events_in("<a>p<b/></a>"),
                   [(("signs", "x"), 0), (("char", "p"), 1)])
        self.check([link(ANY, COPY), link(ANY, "")], events_in("<a>p<b/></a>"), [])

    def test_random(self):
        chance = random.Random(45)
        seen = {}
        for _ in range(400):
            grammar = Grammar(read_schema(ANY))
            links = [link(ANY, chance.choice([COPY, TWICE])) if chance.random() < 0.75 else
                     (grammar, random_program(chance, grammar)) for _ in range(chance.randrange(1, 4))]
            document = random_document(chance, grammar, chance.randrange(1, 14))
            if len(document) > 40:
                continue
            try:
                told, fault = self.check(links, document)
            except TooMany:
                continue
            key = len(links), fault is None, fault == len(document)
            seen[key] = seen.get(key, 0) + 1
        for many in (2, 3):
            self.assertGreater(seen[many, True, False], 20, seen)
            self.assertGreater(seen[many, False, False], 5, seen)
            self.assertGreater(seen[many, False, True], 5, seen)


class NotDocumentTest(ChainCase):
    FIRST = ("root r\nr = r : (s | t | u)*\ns = s : chars\nt = t : empty\nu = u : empty\n",
             'rule m r { make a { each m ( s , t , u ) } } rule m s { make s { each m ( char ) } } rule m t { make t { } }')
    SECOND = "root a\na = a : s, s\ns = s : chars\n"

    def test_at_each_place(self):
        links = [link(*self.FIRST), link(self.SECOND, "rule m a { each m ( s ) } rule m s { each m ( char ) }")]
        for text, number in (("<r><s>x</s><s>y</s></r>", None), ("<r><u/><s/><u/><s/><u/></r>", None), ("<r><t/></r>", 1),
                             ("<r><s/><t/></r>", 3), ("<r><s/><s/><s/></r>", 5), ("<r><s/><s/><u/><t/></r>", 7),
                             ("<r/>", 1), ("<r><s/></r>", 3), ("<r><s/><u/></r>", 5)):
            told, fault = self.check(links, events_in(text))
            self.assertEqual(fault, number, text)

    def test_before_the_end_though_nothing_leaves(self):
        # What is wrong leaves the first machine only at the end.
        first = link("root r\nr = r : (s | t)*\ns = s : empty\nt = t : empty\n",
                     'rule m r { make a { each m ( s ) each m ( t ) } } rule m s { make s { } } rule m t { make t { } }')
        _, fault = self.check([first, link(self.SECOND, "")], events_in("<r><t/><s/><s/></r>"))
        self.assertEqual(fault, 7)

    def test_ends_too_early(self):
        for rules, text, number in (("", "<a>x</a>", 3), ('rule m a { make a { } each d ( b ) }', "<a><b/></a>", None),
                                    ("rule m a { each d ( b ) } rule d b { make a { } }", "<a><b/></a>", None),
                                    ("rule m a { each d ( b ) } rule d b { make a { } }", "<a>x</a>", 3),
                                    ("rule m a { each d ( b ) } rule d b { make a { } }", "<a><b/><b/></a>", 3),
                                    ('rule m a { "x" }', "<a/>", 0)):
            links = [link(ANY, rules), link(ANY, COPY)]
            _, fault = self.check(links, events_in(text))
            self.assertEqual(fault, number, (rules, text))
            _, fault = self.check([*links, link(ANY, COPY)], events_in(text))
            self.assertEqual(fault, number)

    def test_in_any_link(self):
        narrow = "root a\na = a @x @y : b?\nb = b @x @y : chars\n"
        wide, thin = link(ANY, COPY), (Grammar(read_schema(narrow)), parse_program(
            "start m mode m keeps rule m a { make a { each m ( b ) } } rule m b { make b { each m ( char ) } }"))
        for links in ([wide, thin], [wide, wide, thin], [wide, thin, wide], [thin, wide]):
            for text, number in (("<a/>", None), ("<a><b>x</b></a>", None), ("<a>x</a>", 1), ("<a><b/><b/></a>", 3),
                                 ("<a><b>x<a/></b></a>", 3), ("<a><a/></a>", 1)):
                document = events_in(text)
                if links[0] == thin and number is not None:
                    continue
                _, fault = self.check(links, document)
                self.assertEqual(fault, number, text)

    def test_the_first_document(self):
        for links in ([link(ANY, COPY)], [link(ANY, COPY), link(ANY, COPY)]):
            for text, number in (("<b/>", 0), ("<a><c/></a>", 1), ('<a>x<b z=""/></a>', 2)):
                _, fault = self.run_chain(links, events_in(text))
                self.assertEqual(fault, number)
            _, fault = self.run_chain(links, [*events_in("<a/>")][:1] + [("end", "b")])
            self.assertEqual(fault, 1)
            chain = Chain(links)
            for event in events_in("<a/>"):
                chain.event(event)
            with self.assertRaises(NotDocument) as caught:
                chain.event(("char", "x"))
            self.assertEqual(caught.exception.number, 2)


class LinksTest(unittest.TestCase):
    def wrong(self, value):
        with self.assertRaises(NotValid):
            Chain(value)

    def test_no_list_of_links(self):
        good = link(ANY, COPY)
        Chain([good])
        for value in ODD_CONTENTS + [[], (), (good,), good, list(good), {1: good}, [good, None], [[*good]], [(*good, 1)],
                                     [good[:1]], [()], [good, good[::-1]], [(good[0], good[0])], [(good[1], good[1])],
                                     [(good[0].schema(), good[1])], [(good[0], None)], [(good[0], {})], [(None, good[1])],
                                     [(good[0], COPY)], [good, Same()], [(Same(), good[1])], [(good[0], Same())]]:
            self.wrong(value)

    def test_programs_that_do_not_fit(self):
        good = link(ANY, COPY)
        for rules in ("rule m c { }", "rule m a { each m ( c ) }", "rule m a { @ z }"):
            self.wrong([link(ANY, rules)])
            self.wrong([good, link(ANY, rules)])
            self.wrong([link(ANY, rules), good])
        # Each one fits its own schema.
        narrow = link("root a\na = a @x : chars\n", "rule m a { @ x }")
        Chain([good, narrow])
        self.wrong([(narrow[0], good[1])])

    def test_too_many(self):
        frames = link(ANY, "rule m a { each m ( a ) each m ( a ) }")
        for links in ([frames], [link(ANY, COPY), frames]):
            chain = Chain(links)
            for _ in range(9):
                chain.event(("start", "a", ()))
            with self.assertRaises(TooMany):
                chain.event(("start", "a", ()))

    def test_nothing_is_changed(self):
        links = [link(ANY, TWICE), link(ANY, COPY)]
        document = events_in('<a x="1">p<b>q</b></a>')
        programs = copy.deepcopy([program for _, program in links])
        kept = list(links)
        expected = plain_chain(links, document)
        told = []
        chain = Chain(links)
        links.append("more")
        for event in document:
            rows = chain.event(event)
            told += rows
            rows.append("more")
        self.assertEqual(told, expected)
        self.assertEqual([program for _, program in kept], programs)
        self.assertEqual(document, events_in('<a x="1">p<b>q</b></a>'))
        self.assertIsInstance(Machine(*kept[0]), Machine)


if __name__ == "__main__":
    unittest.main()
