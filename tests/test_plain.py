"""[27], [32], [33]: which programs fit, and the plain output."""

import copy
import random
import unittest

from hewstream.errors import NotValid, TooMany
from hewstream.plain import plain_output, without_places
from hewstream.schemas import Grammar, is_schema, read_schema
from hewstream.syntax import parse_program
from hewstream.tokens import read_text
from program_oracle import deepest, plain_meaning, random_document, random_program
from samples import ODD_CONTENTS
from schema_oracle import random_schema, small_content


def events_in(text):
    return read_text([ord(sign) for sign in text])


def grammar_of(text):
    return Grammar(read_schema(text))


def rules(text, modes="mode m keeps mode d drops"):
    return parse_program("start m " + modes + " " + text)


def starts(name, place, attributes=()):
    return ("start", name, attributes), place


def signs(string, place):
    return ("signs", string), place


def char(sign, place):
    return ("char", sign), place


def end(name, place):
    return ("end", name), place


MIXED = grammar_of("root a\na = a @x @y : (b | c | chars)*\nb = b @x : chars\nc = c : a?, b?\n")
TEXT = '<a x="1">p<b x="2">qr</b><c><a/><b/></c>s<b/></a>'
# The numbers of the events: a 0, p 1, b 2, q 3, r 4, c 6, a 7, b 9, s 12, b 13.


class ItemsTest(unittest.TestCase):
    def check(self, program, expected, text=TEXT, grammar=MIXED):
        document = events_in(text)
        kept = copy.deepcopy((document, program))
        output = plain_output(grammar, program, document)
        self.assertEqual(output, expected)
        self.assertEqual(output, plain_meaning(grammar, program, document))
        self.assertEqual(without_places(output), [event for event, _ in expected])
        self.assertEqual((document, program), kept)

    def test_example(self):
        program = parse_program('start m mode m keeps rule m a { each m ( char ) "-" each m ( char ) }')
        expected = [char("x", 1), char("y", 2), signs("-", 0), char("x", 1), char("y", 2)]
        self.check(program, expected, "<a>xy</a>", grammar_of("root a\na = a : chars\n"))

    def test_texts_and_values(self):
        self.check(rules('rule m a { "u" "" "v" @ x @ y "w" }'),
                   [signs("u", 0), signs("v", 0), signs("1", 0), signs("w", 0)])
        self.check(rules("rule m a { @ y @ x @ x }"), [signs("1", 0), signs("1", 0)])

    def test_makes(self):
        self.check(rules('rule m a { make p ( q = "<" + @ x + @ y , r = @ y ) { "t" make s { } } make p { } }'),
                   [starts("p", 0, (("q", "<1"), ("r", ""))), signs("t", 0), starts("s", 0), end("s", 0), end("p", 0),
                    starts("p", 0), end("p", 0)])

    def test_signs(self):
        self.check(rules("rule m a { each m ( char ) }"), [char("p", 1), char("s", 12)])
        self.check(rules("rule m a { each d ( char ) }"), [])
        self.check(rules("rule m a { each m ( char ) each d ( char ) each m ( char ) }"),
                   [char("p", 1), char("s", 12)] * 2)

    def test_children(self):
        program = rules('rule m a { each m ( b , c ) } rule m b { "(" each m ( char ) ")" } rule m c { "c" }')
        self.check(program, [signs("(", 2), char("q", 3), char("r", 4), signs(")", 2), signs("c", 6), signs("(", 13),
                             signs(")", 13)])

    def test_children_in_their_order(self):
        program = rules('rule m a { each d ( b , c , char ) } rule d b { @ x } rule d c { "c" each m ( a , b ) } '
                        'rule m b { "b" }', "mode m drops mode d keeps")
        self.check(program, [char("p", 1), signs("2", 2), signs("c", 6), signs("b", 9), char("s", 12)])

    def test_children_several_times_and_in_another_order(self):
        program = rules('rule m a { each m ( c ) each d ( b ) each m ( char ) each m ( b ) each m ( b , c ) } '
                        'rule m b { "m" } rule d b { "d" each m ( char ) } rule m c { "c" }')
        self.check(program, [
            signs("c", 6), signs("d", 2), char("q", 3), char("r", 4), signs("d", 13), char("p", 1), char("s", 12),
            signs("m", 2), signs("m", 13), signs("m", 2), signs("c", 6), signs("m", 13)])

    def test_recursion(self):
        program = rules('rule m a { make p { each m ( c ) } } rule m c { each m ( a , b ) "c" } rule m b { "b" }')
        self.check(program, [starts("p", 0), starts("p", 7), end("p", 7), signs("b", 9), signs("c", 6), end("p", 0)])

    def test_ifs(self):
        program = rules('rule m a { if @ x = "1" { "one" each m ( b ) } else { "other" } if @ y { "y" } else { each m '
                        '( char ) } if @ y = "" { "e" } each m ( c ) } rule m c { each m ( a ) } rule m b { if @ x '
                        '{ "x" } else { "-" } }')
        self.check(program, [signs("one", 0), signs("x", 2), signs("-", 13), char("p", 1), char("s", 12),
                             signs("other", 7)])

    def test_missing_rules(self):
        self.check(rules(""), [])
        self.check(rules('rule d a { "x" }'), [])
        self.check(rules('rule m a { each m ( b , c , char ) each d ( b ) } rule d c { "x" }'), [char("p", 1), char("s", 12)])
        self.check(rules("rule m a { }"), [])

    def test_output_needs_no_root(self):
        self.check(rules('rule m a { make p { } "x" make q { } }'), [
            starts("p", 0), end("p", 0), signs("x", 0), starts("q", 0), end("q", 0)])

    def test_types_with_the_same_element_name(self):
        grammar = grammar_of("root r\nr = r : a, b\na = x : s\nb = y : t\ns = z : chars\nt = z : chars\n")
        program = rules('rule m r { each m ( b ) each m ( a ) } rule m a { each m ( s ) } rule m b { each m ( t ) } '
                        'rule m s { "s" each m ( char ) } rule m t { "t" each m ( char ) }')
        self.check(program, [signs("t", 7), char("2", 8), signs("s", 2), char("1", 3)],
                   "<r><x><z>1</z></x><y><z>2</z></y></r>", grammar)

    def test_random(self):
        chance = random.Random(32)
        several = 0
        for _ in range(300):
            grammar = Grammar(random_schema(chance, small_content, is_schema))
            program = random_program(chance, grammar)
            document = random_document(chance, grammar, chance.randrange(1, 25))
            # The other reading takes as long as there are uses.
            if len(document) > 200 or deepest(document) > 8:
                continue
            expected = plain_meaning(grammar, program, document)
            if len(expected) <= 20000:
                self.assertEqual(plain_output(grammar, program, document), expected)
                several += len(expected) > 5
        self.assertGreater(several, 30)


class RefusedTest(unittest.TestCase):
    def test_documents_that_are_not_valid(self):
        program = rules('rule m a { "x" }')
        good = events_in("<a><b/></a>")
        self.assertEqual(plain_output(MIXED, program, good), [signs("x", 0)])
        for document in (good[:-1], good[1:], good[:1], [], good * 2, good[:1] + good[2:], events_in("<b/>"),
                         events_in('<a z=""/>'), events_in("<a><d/></a>"), events_in("<a><b><b/></b></a>"),
                         good + [("char", "a")], [("char", "a")], [good], tuple(good), good[::-1],
                         [("start", "a", ()), ("end", "b")], [("start", "a", ()), ("signs", "x"), ("end", "a")]):
            with self.assertRaises(NotValid):
                plain_output(MIXED, program, document)
        for value in ODD_CONTENTS:
            with self.assertRaises(NotValid):
                plain_output(MIXED, program, value)

    def test_programs_that_do_not_fit(self):
        document = events_in("<a/>")
        # Each name that a program can name: one that fits and one that does not.
        for good, bad in (("rule m b { }", "rule m z { }"), ("rule d c { }", "rule d char { }"),
                          ("rule m a { each m ( b ) }", "rule m a { each m ( b , z ) }"),
                          ("rule m a { each m ( char ) }", "rule m a { each m ( chars ) }"),
                          ("rule m b { each m ( c ) }", "rule m b { each m ( x ) }"),
                          ("rule m a { @ y }", "rule m b { @ y }"), ("rule m b { @ x }", "rule m c { @ x }"),
                          ('rule m a { if @ y = "" { } }', 'rule m b { if @ y = "" { } }'),
                          ("rule m b { if @ x { } }", "rule m c { if @ x { } }"),
                          ("rule m a { make z ( z = @ y ) { } }", "rule m b { make z ( z = @ y ) { } }"),
                          ("rule m a { if @ x { } else { make p { @ y } } }", "rule m b { if @ x { } else { make p { @ y } } }"),
                          ("rule m a { make p { each m ( a ) } }", "rule m a { make p { each m ( e ) } }")):
            self.assertIsInstance(plain_output(MIXED, rules(good), document), list)
            with self.assertRaises(NotValid):
                plain_output(MIXED, rules(bad), document)


class SizeTest(unittest.TestCase):
    GRAMMAR = grammar_of("root a\na = a : (a | chars)*\n")

    def document(self, depth, signs):
        return [("start", "a", ())] * depth + [("char", "x")] * signs + [("end", "a")] * depth

    def many(self, program, document, expected):
        if expected is None:
            with self.assertRaises(TooMany):
                plain_output(self.GRAMMAR, program, document)
        else:
            self.assertEqual(len(plain_output(self.GRAMMAR, program, document)), expected)

    def test_most_events(self):
        program = rules("rule m a { each m ( char ) }")
        self.many(program, self.document(1, 20000), 20000)
        self.many(program, self.document(1, 20001), None)
        program = rules('rule m a { "-" make p { each m ( char ) } each m ( char ) }')
        self.many(program, self.document(1, 9998), 19999)
        self.many(program, self.document(1, 9999), None)
        program = rules('rule m a { each m ( char ) each m ( a ) each m ( char ) }')
        self.many(program, self.document(2, 10000), 20000)
        self.many(program, self.document(2, 10001), None)

    def test_most_events_of_uses(self):
        # The same few pieces, written over and over again.
        program = rules('rule m a { each m ( a ) each m ( a ) "x" }')
        for depth in range(1, 14):
            self.many(program, self.document(depth, 0), 2 ** depth - 1)
        self.many(program, self.document(14, 0), 16383)
        self.many(program, self.document(15, 0), None)
        program = rules('rule m a { each m ( a , char ) each m ( a , char ) }')
        self.many(program, self.document(4, 1250), 20000)
        self.many(program, self.document(4, 1251), None)
        self.many(program, self.document(60, 1), None)

    def test_nothing_written_often(self):
        program = rules("rule m a { each m ( a ) each m ( a ) each m ( a ) }")
        self.many(program, self.document(60, 1), 0)
        program = rules("rule m a { each m ( a ) each m ( a ) each d ( char ) each d ( a ) }")
        self.many(program, self.document(3000, 2), 0)

    def test_deep_documents(self):
        program = rules('rule m a { "(" each m ( a , char ) ")" }')
        self.many(program, self.document(5000, 3), 10003)
        # Many uses of one sign, far down.
        program = rules('rule m a { each m ( char ) each d ( a ) each d ( a ) } rule d a { each d ( a ) each m ( a ) }')
        document = self.document(3000, 5)
        self.many(program, document, None)

    def test_deep_output(self):
        program = rules('rule m a { each m ( a ) each d ( a ) } rule d a { each d ( a ) each d ( char ) }',
                        "mode m keeps mode d keeps")
        document = self.document(3000, 5)
        self.assertEqual(plain_output(self.GRAMMAR, program, document),
                         [char("x", place) for place in range(3000, 3005)] * 2999)


if __name__ == "__main__":
    unittest.main()
