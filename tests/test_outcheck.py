"""[61] to [65]: keys, behaviours, tables and documents that decide whether all outputs are right."""

import copy
import random
import unittest

from hewstream.events import is_document
from hewstream.facts import Facts
from hewstream.outcheck import (MOST_BEHAVIOURS, MOST_ROWS, behaviour, check_output, judge_behaviours, keys_of)
from hewstream.schemas import Grammar, is_schema, read_schema
from hewstream.syntax import parse_program
from hewstream.tokens import read_text
from hewstream.validator import validate
from output_oracle import is_right, seen_behaviour, states_of_context
from program_oracle import all_documents, deepest, random_body, random_program, some
from samples import ODD_CONTENTS, Same
from schema_oracle import random_schema, small_content
from test_facts import grammar_from


def facts_of(schema, rules, modes="mode d drops mode m keeps mode n keeps"):
    return Facts(Grammar(read_schema(schema)), parse_program("start m " + modes + " " + rules))


def grammar_of(text):
    return Grammar(read_schema(text))


def events_in(text):
    return read_text([ord(sign) for sign in text])


class KeysTest(unittest.TestCase):
    SCHEMA = "root a\na = a @x : (b | c)*\nb = b : a?, chars\nc = c : empty\n"
    OUTPUT = grammar_of("root p\np = p : q*, r?\nq = q : (q | r)*\nr = r @k! : s?\ns = q : chars\n")

    def check(self, rules, a="", b="", c=""):
        """The keys of each type, as words "mode context", the top being "mode"."""
        expected = {kind: tuple(sorted(tuple((word.split(".") + [""])[:2]) for word in words.split()))
                    for kind, words in zip("abc", (a, b, c))}
        self.assertEqual(keys_of(facts_of(self.SCHEMA, rules), self.OUTPUT), expected)

    def test_top(self):
        self.check("", "m")
        self.check("rule m a { each m ( b ) each n ( c , char ) }", "m", "m", "n")
        self.check("rule m a { each m ( b ) each n ( b ) } rule n b { each d ( a ) }", "m d", "m n")
        self.check("rule n a { each m ( b ) }", "m")

    def test_makes(self):
        self.check("rule m a { make p { each m ( b ) } }", "m", "m.p")
        self.check("rule m a { make p { make q { each m ( b ) } each n ( c ) } each d ( c ) }", "m", "m.q", "n.p d")
        self.check("rule m a { make p { make r { make q { each m ( b ) } } } }", "m", "m.s")
        # The attributes of the makes are of no account.
        self.check('rule m a { make p ( z = "" ) { make r { each m ( b ) } } }', "m", "m.r")
        self.check('rule m a { make p { make r ( k = "" , z = @ x ) { each m ( b ) } } }', "m", "m.r")

    def test_makes_that_cannot_stand_there(self):
        self.check("rule m a { make q { each m ( b ) } each n ( c ) }", "m", "", "n")
        self.check("rule m a { make z { make p { each m ( b ) } } }", "m")
        self.check("rule m a { make p { make p { each m ( b ) } each n ( c ) } }", "m", "", "n.p")
        self.check("rule m a { make p { make q { make z { make q { each m ( b ) } each m ( c ) } each n ( c ) } each n ( b ) } }",
                   "m", "n.p", "n.q")

    def test_contexts_go_on(self):
        self.check("rule m a { make p { each m ( b ) } } rule m b { make q { each n ( a ) } } rule n a { make q { each n ( b ) } } "
                   "rule n b { each d ( a ) }", "m n.q d.q", "m.p n.q")

    def test_cases(self):
        self.check('rule m a { if @ x = "1" { make p { each m ( b ) } } else { each n ( b ) } }', "m", "m.p n")
        # No case has a string that is two at once.
        self.check('rule m a { if @ x = "1" { if @ x = "2" { each m ( b ) } } }', "m")

    def test_all_symbols_of_a_lane(self):
        # Whether they can come in the content or not.
        self.check("rule m b { each m ( a , b , c ) } rule m a { each m ( b ) }", "m", "m", "m")


class BehaviourTest(unittest.TestCase):
    OUTPUT = grammar_of("root p\np = p : q*, r?\nq = q @x : chars\nr = r @k! : q?\n")
    # In p: 0 behind any q, 1 behind an r. In q: 0. In r: 0, and 1 behind a q.
    SCHEMA = "root a\na = a @x : (b | chars)*\nb = b @x : chars\n"

    def check(self, body, expected, attributes=(), children=()):
        """What an element b does in the context p, by the rule of m; nothing more has keys of it."""
        facts = facts_of(self.SCHEMA, "rule m a { make p { each m ( b ) } } rule m b { " + body + " }")
        told = behaviour(facts, self.OUTPUT, "b", attributes, list(children))
        self.assertEqual(told, ((("m", "p"), expected),))

    def test_own_events(self):
        self.check("", (0, 1))
        self.check("make q { }", (0, -1))
        self.check('make q { "x" }', (0, -1))
        self.check('make r ( k = "" ) { }', (1, -1))
        self.check('make r ( k = "" ) { make q { } }', (1, -1))
        self.check('make q { } make q { } make r ( k = "1" ) { }', (1, -1))

    def test_faults(self):
        # An element that cannot come here, or not in this state.
        for body in ("make p { }", "make z { }", 'make r ( k = "" ) { } make q { }', 'make r ( k = "" ) { make q { } make q { } }',
                     # An attribute that the type does not have, or that is needed and missing.
                     'make q ( k = "" ) { }', "make r { }", 'make r ( x = "" ) { }', 'make r ( k = "" , x = "" ) { }',
                     # Signs that cannot come.
                     '"x"', 'make r ( k = "" ) { "x" }', "make q { } @ x",
                     # A fault inside.
                     "make q { make q { } }", 'make r ( k = "" ) { make q { make z { } } }'):
            self.check(body, (-1, -1), (("x", "1"),))

    def test_a_content_that_cannot_end(self):
        output = grammar_of("root p\np = p : q?\nq = q : r, r\nr = r : chars\n")
        facts = facts_of(self.SCHEMA, 'rule m a { make p { each m ( b ) } } rule m b { make q { make r { "x" } if @ x { make r { '
                                      '} } } }')
        self.assertEqual(behaviour(facts, output, "b", (), []), ((("m", "p"), (-1, -1)),))
        self.assertEqual(behaviour(facts, output, "b", (("x", ""),), []), ((("m", "p"), (1, -1)),))

    def test_attributes(self):
        self.check('make q { @ x }', (0, -1), (("x", "12"),))
        self.check("@ x", (0, 1))
        self.check("@ x", (0, 1), (("x", ""),))
        self.check("@ x", (-1, -1), (("x", "q"),))
        self.check('if @ x = "1" { make q { } } else { make r ( k = @ x ) { } }', (0, -1), (("x", "1"),))
        self.check('if @ x = "1" { make q { } } else { make r ( k = @ x ) { } }', (1, -1), (("x", "2"),))

    def test_signs(self):
        signs = [("char", None)] * 3
        self.check("make q { each m ( char ) }", (0, -1), (), signs)
        self.check("each m ( char )", (-1, -1), (), signs)
        self.check("each m ( char )", (0, 1))
        self.check("each d ( char )", (0, 1), (), signs)

    def test_children(self):
        facts = facts_of(self.SCHEMA, 'rule m a { make p { each m ( b ) each n ( char ) each n ( b ) } } rule m b { make q { } } '
                                      'rule n b { if @ x { make r ( k = "" ) { } } }')
        none = behaviour(facts, self.OUTPUT, "b", (), [])
        one = behaviour(facts, self.OUTPUT, "b", (("x", ""),), [("char", None)])
        self.assertEqual(none, ((("m", "p"), (0, -1)), (("n", "p"), (0, 1))))
        self.assertEqual(one, ((("m", "p"), (0, -1)), (("n", "p"), (1, -1))))
        for children, end in (([], 1), ([("b", none)] * 3, 1), ([("b", none), ("b", one)], 1), ([("b", one), ("b", none)], 1),
                              ([("b", one), ("b", one)], -1), ([("b", one), ("char", None)], -1), ([("char", None)], -1)):
            self.assertEqual(behaviour(facts, self.OUTPUT, "a", (), children), ((("m", ""), (end, -1)),), children)

    def test_the_top(self):
        for body, expected in (("make p { }", (1, -1)), ("", (0, 1)), ("make p { } make p { }", (-1, -1)), ("make q { }", (-1, -1)),
                               ('"x"', (-1, -1)), ('make p { } "x"', (-1, -1)), ('make p ( x = "" ) { }', (-1, -1))):
            facts = facts_of(self.SCHEMA, "rule m a { " + body + " }")
            self.assertEqual(behaviour(facts, self.OUTPUT, "a", (), [("char", None)]), ((("m", ""), expected),))

    def test_no_keys(self):
        facts = facts_of(self.SCHEMA, "")
        self.assertEqual(behaviour(facts, self.OUTPUT, "b", (), [("char", None)]), ())

    def test_several_keys(self):
        facts = facts_of(self.SCHEMA, 'rule m a { make p { each n ( b ) make q { each m ( b ) } make r ( k = "" ) { each m ( b ) } } } '
                                      'rule n b { make q { } } rule m b { each m ( char ) }')
        self.assertEqual(behaviour(facts, self.OUTPUT, "b", (), []), (
            (("m", "q"), (0,)), (("m", "r"), (0, 1)), (("n", "p"), (0, -1))))
        self.assertEqual(behaviour(facts, self.OUTPUT, "b", (), [("char", None)]), (
            (("m", "q"), (0,)), (("m", "r"), (-1, -1)), (("n", "p"), (0, -1))))


class CheckTest(unittest.TestCase):
    def test_constants(self):
        self.assertEqual((MOST_BEHAVIOURS, MOST_ROWS), (100, 300))

    def right(self, facts, output, table=None):
        answer, told = check_output(facts, output)
        self.assertEqual(answer, "right", told)
        if table is not None:
            self.assertEqual(told, table)
        self.assertIs(judge_behaviours(facts, output, told), True)
        return told

    def wrong(self, facts, output, text=None):
        answer, document = check_output(facts, output)
        self.assertEqual(answer, "wrong")
        self.assertEqual(validate(facts.grammar, document), (-1, ""))
        self.assertFalse(is_right(facts.grammar, facts.program, output, document))
        self.assertLessEqual(deepest(document), 100)
        if text is not None:
            self.assertEqual(document, events_in(text))
        return document

    def test_right(self):
        facts = facts_of("root a\na = a : (b | chars)*\nb = b @x : a?\n", 'rule m a { make p { each m ( b ) "." each m ( char ) } } '
                                                                         'rule m b { make q { @ x each n ( a ) } } '
                                                                         "rule n a { each n ( char , b ) }")
        output = grammar_of("root p\np = p : q*, chars\nq = q : chars\n")
        inner = (("n", "q"), (0,))
        self.right(facts, output, {
            "a": (((("m", ""), (1, -1)), inner),), "b": (((("m", "p"), (0, -1)), inner),)})

    def test_wrong(self):
        schema = "root a\na = a : b*, c?\nb = b : chars\nc = c : empty\n"
        facts = facts_of(schema, "rule m a { make p { each m ( b ) } } rule m b { make q { each m ( char ) } }")
        self.right(facts, grammar_of("root p\np = p : q*\nq = q : chars\n"))
        self.wrong(facts, grammar_of("root p\np = p : q*\nq = q : empty\n"), "<a><b>a</b></a>")
        self.wrong(facts, grammar_of("root p\np = p : q?\nq = q : chars\n"), "<a><b/><b/></a>")
        self.wrong(facts, grammar_of("root p\np = p : q+\nq = q : chars\n"), "<a/>")
        self.wrong(facts, grammar_of("root p\np = p : (q, q)*\nq = q : chars\n"), "<a><b/></a>")
        self.wrong(facts, grammar_of("root p\np = p : q?, q?, q?\nq = q : chars\n"), "<a><b/><b/><b/><b/></a>")
        self.wrong(facts, grammar_of("root p\np = q : q*\nq = q : chars\n"), "<a/>")
        self.wrong(facts, grammar_of("root p\np = p @x! : q*\nq = q : chars\n"), "<a/>")

    def test_attributes(self):
        facts = facts_of("root a\na = a @x @y! : empty\n", 'rule m a { if @ x = "1" { make p ( k = @ y ) { @ y } } else { make p { } '
                                                          '} }')
        self.right(facts, grammar_of("root p\np = p @k : chars\n"))
        document = self.wrong(facts, grammar_of("root p\np = p @k : empty\n"))
        self.assertEqual(dict(document[0][2])["x"], "1")
        self.assertNotEqual(dict(document[0][2])["y"], "")
        self.assertNotIn(("x", "1"), self.wrong(facts, grammar_of("root p\np = p @k! : chars\n"))[0][2])
        self.assertIn(("x", "1"), self.wrong(facts, grammar_of("root p\np = p : chars\n"))[0][2])

    def test_each_case_counts(self):
        # The cases differ in a name, in the attributes, in a lane, or in an end, and only one of them is right.
        output = grammar_of("root p\np = p @k : q?, r?\nq = q : chars\nr = r : chars\n")
        for good, bad in (("make q { }", "make z { }"), ("make q { }", "make p { }"), ("make r { }", "make r ( k = @ x ) { }"),
                          ("make q { make q { } }", "make q { }"), ("make q { each m ( char ) }", "each m ( char )"),
                          ("make q { } make r { }", "make r { } make q { }"), ("make q { each d ( char ) }", "each m ( char )"),
                          ('make q { "1" }', 'make q { } "1"'), ("make q { } make r { }", "make q { make r { } }")):
            for one, other, there in ((good, bad, False), (bad, good, True)):
                if "make q { make q" in good:
                    one, other, there = "make q { }", "make q { make q { } }", False
                facts = facts_of("root a\na = a @x : chars\n", "rule m a { make p { if @ x { " + one + " } else { " + other + " } } }")
                self.assertEqual(self.wrong(facts, output)[0][2] != (), there)
        facts = facts_of("root a\na = a @x : chars\n", 'rule m a { if @ x { make p ( k = "" ) { } } else { make p ( z = "" ) { } } }')
        self.assertEqual(self.wrong(facts, output)[0][2], ())

    def test_fewest_events(self):
        # The output is wrong by two signs, or by an element c with four within it.
        schema = "root a\na = a : (chars, b?) | c\nb = b : empty\nc = c : (b, b)\n"
        output = grammar_of("root p\np = p : q?\nq = q : empty\n")
        for rules, text in (("rule m a { make p { each m ( b , c , char ) } } rule m b { make p { } } rule m c { make p { } }", "<a>a</a>"),
                            ("rule m a { make p { each d ( char ) each m ( b , c ) } } rule m b { make p { } } rule m c { make p { } }",
                             "<a><b/></a>"),
                            ("rule m a { make p { each m ( c ) } } rule m c { make p { } }", "<a><c><b/><b/></c></a>"),
                            ("rule m a { make p { each m ( b , c ) } } rule m b { make q { } } rule m c { each m ( b ) }",
                             "<a><c><b/><b/></c></a>")):
            self.wrong(facts_of(schema, rules), output, text)
        # An element with four small children, or one with three greater ones; and signs or elements.
        for small, great in ("bc", "cb"):
            schema = (f"root a\na = a : b | c\n{small} = {small} : d, d, d, d, chars\n{great} = {great} : e, e, e, chars\n"
                      "d = d : empty\ne = e : d\n")
            rules = "rule m a { make p { each m ( b , c ) } } rule m b { make p { } } rule m c { make p { } }"
            document = self.wrong(facts_of(schema, rules), output)
            self.assertEqual(document, events_in(f"<a><{small}>" + "<d/>" * 4 + f"</{small}></a>"))
            schema = f"root a\na = a : b | c\n{small} = {small} : chars\n{great} = {great} : d?\nd = d : empty\n"
            rules = ("rule m a { make p { each m ( b , c ) } } rule m b { each m ( char , d ) } rule m c { each m ( char , d ) } "
                     "rule m d { make p { } }")
            document = self.wrong(facts_of(schema, rules), output)
            self.assertEqual(document, events_in(f"<a><{small}>a</{small}></a>"))
            rules = "rule m a { make p { each m ( b , c ) } } rule m b { make p { } } rule m c { make p { } }"
            # A few elements deep within each other, or many side by side.
            schema = (f"root a\na = a : b | c\n{small} = {small} : e\n{great} = {great} : d, d, d, d, d, d\nd = d : empty\n"
                      "e = e : f\nf = f : g\ng = g : empty\n")
            document = self.wrong(facts_of(schema, rules), output)
            self.assertEqual(document, events_in(f"<a><{small}><e><f><g/></f></e></{small}></a>"))
            # One element or two within.
            schema = f"root a\na = a : {small} | {great}\n{small} = {small} : d\n{great} = {great} : d, d\nd = d : empty\n"
            rules = "rule m a { make p { each m ( b , c ) } } rule m b { make p { } } rule m c { make p { } }"
            document = self.wrong(facts_of(schema, rules), output)
            self.assertEqual(document, events_in(f"<a><{small}><d/></{small}></a>"))

    def test_no_rules(self):
        self.wrong(facts_of("root a\na = a : a*\n", ""), grammar_of("root p\np = p : empty\n"), "<a/>")

    def test_deep(self):
        # The output is wrong only where 59 elements, or so, are within each other.
        many = 58
        types = {"p0": ("p", (), ("chars",))}
        for number in range(many):
            types[f"p{number + 1}"] = ("p", (), ("maybe", ("type", f"p{number}")))
        facts = facts_of("root a\na = a : a?\n", "rule m a { make p { each m ( a ) } }")
        output = Grammar({"root": f"p{many}", "types": types})
        self.assertEqual(deepest(self.wrong(facts, output)), many + 2)

    def test_as_long_as_can_be(self):
        # Elements b with one, two, four .. elements c; a wrong output needs 13 of them.
        schema = "root a\na = a : t0 | t1\n" + "".join(f"t{k} = e{k} : t{k + 2}, t{k + 2}\n" for k in range(6)) + "t6 = c : empty\nt7 = d : c?\nc = c : empty\n"
        texts = "".join(f" rule m t{k} {{ each m ( t{k + 2} ) }}" for k in range(6))
        facts = facts_of(schema, "rule m a { make p { each m ( t0 , t1 ) } } rule m t6 { make q { } } rule m t7 { make r { } }" + texts)
        self.right(facts, grammar_of("root p\np = p : q* | r*\nq = q : empty\nr = r : empty\n"))
        document = self.wrong(facts, grammar_of("root p\np = p : q*\nq = q : empty\n"))
        self.assertEqual(len(document), 2 + 2 * (1 + 2 + 4 + 8))

    def random_pair(self, chance):
        """Facts and an output schema of which the outputs are right more often than by mere chance."""
        grammar = Grammar(random_schema(chance, small_content, is_schema))
        program = random_program(chance, grammar)
        root = (("make", "e", (), random_body(chance, grammar, list(program["modes"]), grammar.root, 1, True)),)
        program["rules"][program["start"], grammar.root] = root
        if chance.random() < 0.8:
            # With an h, which no program writes, before all other children a context has two states.
            schema = {"root": "e", "types": {"h": ("h", (), ("empty",))}}
            for name in "efg":
                others = tuple(("type", other) for other in "efg" if chance.random() < 0.8) + (("chars",), ("empty",))
                row = ("seq", (("maybe", ("type", "h")), ("star", ("or", others))))
                schema["types"][name] = (name, (("p", False), ("q", False)), row)
            if not is_schema(schema):
                return None
        else:
            schema = random_schema(chance, small_content, is_schema)
        return Facts(grammar, program), Grammar(schema)

    def test_random(self):
        chance = random.Random(65)
        seen = {"right": 0, "wrong": 0, "many": 0, "several": 0}
        for _ in range(1000):
            pair = self.random_pair(chance)
            if pair is None:
                continue
            facts, output = pair
            if sum(len(facts.cases(kind)) for kind in facts.grammar.types()) > 30:
                continue
            kept = copy.deepcopy(facts.program)
            answer, told = check_output(facts, output)
            self.assertEqual(facts.program, kept)
            seen[answer] += 1
            documents = some(all_documents(facts.grammar, facts.cases, 8, 60), 60)
            if answer == "wrong":
                self.wrong(facts, output)
                for document in documents:
                    if not is_right(facts.grammar, facts.program, output, document):
                        self.assertLessEqual(len(told), len(document))
            elif answer == "right":
                self.assertIs(judge_behaviours(facts, output, told), True)
                for document in documents:
                    self.assertTrue(is_right(facts.grammar, facts.program, output, document))
                seen["several"] += self.check_table(facts, output, told) > 1
            else:
                self.assertEqual(told, ())
        self.assertGreater(min(seen["right"], seen["wrong"], seen["several"]), 30, seen)

    def check_table(self, facts, output, table):
        """The behaviours of all small elements are in the table; how many behaviours a type has at most."""
        keys = keys_of(facts, output)
        self.assertEqual(sorted(table), facts.grammar.types())
        for kind in facts.grammar.types():
            own = grammar_from(facts.grammar.schema(), kind)
            for document in some(all_documents(own, facts.cases, 8, 30), 20):
                seen = seen_behaviour(own, facts.program, output, keys[kind], document)
                self.assertIn(seen, table[kind])
                self.assertEqual(behaviour_of(facts, output, own, document), seen)
            self.assertEqual(list(table[kind]), sorted(set(table[kind])))
        self.check_spoiled(facts, output, table)
        return max(len(rows) for rows in table.values())

    def check_spoiled(self, facts, output, table):
        """The table is the least one: without one of its behaviours it is not closed."""
        for kind, rows in table.items():
            for index in range(len(rows)):
                self.assertIs(judge_behaviours(facts, output, {**table, kind: rows[:index] + rows[index + 1:]}), False)


def behaviour_of(facts, output, grammar, document):
    """The behaviour of an element that is the document, from those of its children."""
    around = [[]]
    starts = []
    for event in document:
        if event[0] == "start":
            kind = grammar.child_type(starts[-1][0], event[1]) if starts else grammar.root
            starts.append((kind, event[2]))
            around.append([])
        elif event[0] == "char":
            around[-1].append(("char", None))
        else:
            kind, attributes = starts.pop()
            told = behaviour(facts, output, kind, attributes, around.pop())
            around[-1].append((kind, told))
    return around[0][0][1]


def ring(name, inner, many):
    """A type of elements in which so many inner ones, or twice as many and so on, can stand, as a line of a schema."""
    return f"{name} = {name} : (" + ", ".join([inner] * many) + ")*\n"


class LimitsTest(unittest.TestCase):
    def check(self, schema, rules, output, expected):
        facts = facts_of(schema, rules)
        answer, told = check_output(facts, grammar_of(output))
        self.assertEqual(answer, expected)
        if answer == "many":
            self.assertEqual(told, ())
        return facts, told

    def test_most_behaviours(self):
        # An a is used in two rings: it has as many behaviours as both together have turns. Two more are of b
        # and of the root, which is right only for some.
        schema = "root r\nr = r : a\na = a : b*\nb = b : empty\n"
        rules = ("rule m r { make o { make p { each m ( a ) } make q { each m ( a ) } } } rule m a { each m ( b ) } rule m b { make x "
                 "{ } }")
        for one, other, expected in ((9, 10, "wrong"), (9, 11, "many"), (7, 14, "wrong"), (10, 11, "many"), (8, 13, "many")):
            output = "root o\no = o : p, q\n" + ring("p", "x", one) + ring("q", "x", other) + "x = x : empty\n"
            self.check(schema, rules, output, expected)

    def test_exactly_100_behaviours(self):
        # 96 or 98 behaviours of a; one of b; right and wrong ones of the root; the others have one each.
        for one, other, more, expected in ((3, 29, 10, "wrong"), (3, 29, 11, "many"), (7, 13, 6, "wrong"), (7, 13, 7, "many")):
            names = [f"c{number}" for number in range(more)]
            schema = "root r\nr = r : a, (" + " | ".join(names) + ")?\na = a : b*\nb = b : empty\n" + "".join(
                f"{name} = {name} : empty\n" for name in names)
            rules = ("rule m r { make o { make p { each m ( a ) } make q { each m ( a ) } } } rule m a { each m ( b ) } rule m b { make "
                     "x { } }")
            output = "root o\no = o : p, q\n" + ring("p", "x", one) + ring("q", "x", other) + "x = x : empty\n"
            self.check(schema, rules, output, expected)
            self.assertEqual(one * other + 3 + more, 100 if expected == "wrong" else 101)

    def test_most_rows(self):
        schema = "root r\nr = r : b*\nb = b : empty\n"
        rules = ("rule m r { make o { make p { each m ( b ) } make q { each m ( b ) } } } rule m b { make x { } }")
        for one, other, expected in ((25, 12, "wrong"), (17, 18, "many"), (7, 29, "wrong"), (13, 23, "wrong"), (7, 43, None),
                                     (14, 23, "many"), (30, 30, "wrong")):
            if expected is not None:
                output = "root o\no = o : p, q\n" + ring("p", "x", one) + ring("q", "x", other) + "x = x : empty\n"
                self.check(schema, rules, output, expected)

    def test_rows_of_all_states_are_counted(self):
        # In both states of the content there are as many functions.
        rules = ("rule m r { make o { make p { each m ( b ) } make q { each m ( b ) } } } rule m b { make x { } }")
        for content, one, other, expected in (("(b, b)*", 26, 11, "wrong"), ("(b, b)*", 13, 23, "many"), ("b*, c?", 11, 13, "wrong"), ("b*, c?", 12, 13, "many"),
                                              ("b*, c?, c?", 9, 11, "wrong"), ("b*, c?, c?", 9, 13, "many")):
            schema = "root r\nr = r : " + content + "\nb = b : empty\nc = c : empty\n"
            if "c" not in content:
                schema = schema.replace("b = b : empty", "b = b : c?")
            output = "root o\no = o : p, q\n" + ring("p", "x", one) + ring("q", "x", other) + "x = x : empty\n"
            self.check(schema, rules, output, expected)

    def test_rows_of_one_case_are_counted(self):
        # By itself each case has 209 rows.
        schema = "root r\nr = r @x : b*\nb = b : empty\n"
        body = "make o { make p { each m ( b ) } make q { each m ( b ) } }"
        rules = 'rule m r { if @ x { ' + body + ' "x" } else { ' + body + ' } } rule m b { make x { } }'
        output = "root o\no = o : p, q\n" + ring("p", "x", 11) + ring("q", "x", 19) + "x = x : empty\n"
        self.check(schema, rules, output, "wrong")

    def test_given_up_whatever_else_is_found(self):
        # Each output is wrong, but that is not told.
        schema = "root r\nr = r : b*\nb = b : empty\n"
        rules = "rule m r { make o { make p { each m ( b ) } make q { each m ( b ) } } make z { } } rule m b { make x { } }"
        output = "root o\no = o : p, q\n" + ring("p", "x", 17) + ring("q", "x", 18) + "x = x : empty\n"
        self.check(schema, rules, output, "many")

    def test_right(self):
        # Any number of x in both.
        schema = "root r\nr = r : b*\nb = b : empty\n"
        rules = "rule m r { make o { make p { each m ( b ) } make q { each m ( b ) } } } rule m b { make x { } }"

        output = "root o\no = o : p, q\np = p : x*\nq = q : x*\nx = x : empty\n"
        facts, table = self.check(schema, rules, output, "right")
        self.assertEqual(table, {"b": (((("m", "p"), (0,)), (("m", "q"), (0,))),), "r": (((("m", ""), (1, -1)),),)})
        self.assertIs(judge_behaviours(facts, grammar_of(output), table), True)


class JudgeTest(unittest.TestCase):
    SCHEMA = "root a\na = a @x : b*, c?\nb = b : chars\nc = c : b?\n"
    RULES = ('rule m a { make p { each m ( b ) if @ x { each n ( c ) } } } rule m b { make q { each m ( char ) } } rule n c { each m ( b '
             ') }')
    OUTPUT = "root p\np = p : q*\nq = q @x : chars\n"

    def setUp(self):
        self.facts = facts_of(self.SCHEMA, self.RULES)
        self.output = grammar_of(self.OUTPUT)
        self.table = check_output(self.facts, self.output)[1]

    def judge(self, table):
        kept = repr(table)
        told = judge_behaviours(self.facts, self.output, table)
        self.assertEqual(repr(table), kept)
        return told

    def test_table(self):
        self.assertEqual(self.table, {"a": (((("m", ""), (1, -1)),),), "b": (((("m", "p"), (0,)),),), "c": (((("n", "p"), (0,)),),)})
        self.assertIs(self.judge(self.table), True)
        self.assertIs(self.judge(dict(reversed(self.table.items()))), True)

    def test_values_of_other_kinds(self):
        for value in ODD_CONTENTS + [list(self.table.items()), tuple(self.table.items()), [self.table]]:
            self.assertIs(self.judge(value), False)

    def test_types(self):
        for kind in self.table:
            self.assertIs(self.judge({other: rows for other, rows in self.table.items() if other != kind}), False)
            rows = {other: rows for other, rows in self.table.items() if other != kind}
            self.assertIs(self.judge({**rows, "z": self.table[kind]}), False)
            self.assertIs(self.judge({**self.table, kind: ()}), False)
        self.assertIs(self.judge({**self.table, "z": ()}), False)
        self.assertIs(self.judge({**self.table, 1: ()}), False)

    def test_spoiled_rows(self):
        for kind in self.table:
            rows = self.table[kind]
            ((key, ends),) = rows[0]
            wrong = [list(rows), rows + rows, rows[0], None, Same(), "ab", (Same(),), ((Same(),),), (list(rows[0]),), ((),),
                     ((list(rows[0][0]),),), (((key, ends), (key, ends)),), (((key,),),), (((key, ends, ends),),), (((ends, key),),)]
            wrong += [(((other, ends),),) for other in (list(key), key[:1], (*key, ""), ("d", key[1]), (key[0], "q"), ("zz", "p"),
                                                       (key[0], Same()), (Same(), key[1]), Same(), None, "mp", ())]
            wrong += [(((key, other),),) for other in (list(ends), ends[1:], (*ends, 0), (Same(),) * len(ends), ends[:-1] + (True,),
                                                      ends[:-1] + (False,), ends[:-1] + (len(ends),), ends[:-1] + (-2,),
                                                      ends[:-1] + ("0",), ends[:-1] + (None,), None, Same(), 0, "0")]
            for row in wrong:
                self.assertIs(self.judge({**self.table, kind: row}), False, row)

    def test_wrong_ends(self):
        # Well formed, but what comes about is missing, or leads to a wrong output.
        for kind, ends in (("a", (0, -1)), ("a", (-1, -1)), ("a", (0, 1)), ("a", (1, 0)), ("b", (-1,)), ("c", (-1,))):
            ((key, due),) = self.table[kind][0]
            other = ((key, ends),)
            self.assertIs(self.judge({**self.table, kind: (other,)}), False)
            both = tuple(sorted([other, self.table[kind][0]]))
            expected = (kind, ends) in (("a", (1, 0)),)
            self.assertIs(self.judge({**self.table, kind: both}), expected, (kind, ends))
            self.assertIs(self.judge({**self.table, kind: both[::-1]}), False)

    def test_more_behaviours(self):
        # A context with a state that is never met: what is led to from there is of no account.
        facts = facts_of("root a\na = a : b\nb = b : empty\n", "rule m a { make p { each m ( b ) } } rule m b { make q { } }")
        output = grammar_of("root p\np = p : q?\nq = q : empty\n")
        answer, table = check_output(facts, output)
        self.assertEqual((answer, table["b"]), ("right", (((("m", "p"), (1, -1)),),)))
        for ends, good in (((1, 0), True), ((1, 1), True), ((0, -1), True), ((0, 0), True), ((0, 1), True), ((-1, -1), False),
                           ((-1, 0), False)):
            more = {**table, "b": tuple(sorted([table["b"][0], ((("m", "p"), ends),)]))}
            self.assertIs(judge_behaviours(facts, output, more), good, ends)
            only = {**table, "b": (((("m", "p"), ends),),)}
            self.assertIs(judge_behaviours(facts, output, only), False)
        # A behaviour of the root that does not come about must be right, too.
        for ends, good in (((1, 0), True), ((1, 1), True), ((0, -1), False), ((0, 1), False), ((-1, 1), False)):
            more = {**table, "a": tuple(sorted([table["a"][0], ((("m", ""), ends),)]))}
            self.assertIs(judge_behaviours(facts, output, more), good, ends)

    def test_more_rows_than_are_taken(self):
        schema = "root a\na = a : b*\nb = b : empty\n"
        facts = facts_of(schema, "rule m a { make p { each m ( b ) } make q { each m ( b ) } } rule m b { each m ( b ) }")
        output = grammar_of("root p\np = p : empty\n")
        self.assertEqual(check_output(facts, output)[0], "wrong")
        facts = facts_of(schema, "rule m a { make o { make p { each m ( b ) } make q { each m ( b ) } } }")
        # The state behind a y is led to itself by no x, and to no state by others: that is one row more.
        for one, other, good in ((16, 17, True), (17, 18, False), (13, 23, True), (25, 12, False), (7, 29, True)):
            # No b writes anything, but the table has one that writes an x.
            output = grammar_of("root o\no = o : p, q\n" + loose_ring("p", one) + loose_ring("q", other) + "x = x : empty\ny = y : empty\n")
            answer, table = check_output(facts, output)
            self.assertEqual(answer, "right")
            turns = tuple((("m", name), tuple(turn(output, name, state) for state in range(states_of_context(output, name))))
                          for name in "pq")
            more = {**table, "b": tuple(sorted([table["b"][0], turns]))}
            self.assertIs(judge_behaviours(facts, output, table), True)
            self.assertIs(judge_behaviours(facts, output, more), good, (one, other))

    def test_documents_are_no_tables(self):
        facts = facts_of(self.SCHEMA, self.RULES)
        answer, document = check_output(facts, grammar_of("root p\np = p : q?\nq = q : chars\n"))
        self.assertEqual(answer, "wrong")
        self.assertTrue(is_document(document))
        self.assertIs(judge_behaviours(facts, self.output, document), False)


def loose_ring(name, many):
    """Elements in which so many states lie in a ring of x; a y can stand behind one of them, so that they differ."""
    row = "x, " * (many - 1)
    return f"{name} = {name} : ({row}x)*, (" + " | ".join(
        ["empty", "y"] + [", ".join(["x"] * number) for number in range(1, many)]) + ")\n"


def turn(output, context, state):
    """The state behind an x."""
    behind = output.step(context, state, "x")
    return -1 if behind is None else behind


if __name__ == "__main__":
    unittest.main()
