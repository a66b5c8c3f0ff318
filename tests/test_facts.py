"""[34] to [38]: cases, what gives something, live lanes, round edges."""

import itertools
import random
import unittest

from hewstream.automata import inner_edges, states_of
from hewstream.errors import StreamError, TooMany
from hewstream.facts import MOST_CASES, Facts
from hewstream.plain import plain_output
from hewstream.programs import body_of, settled
from hewstream.schemas import Grammar, is_schema, read_schema
from hewstream.syntax import parse_program
from hewstream.tokens import read_text
from hewstream.validator import validate
from program_oracle import STRINGS, all_documents, plain_meaning, random_program, some
from schema_oracle import random_schema, small_content


def facts_of(schema, rules, modes="mode k drops mode m keeps"):
    return Facts(Grammar(read_schema(schema)), parse_program("start m " + modes + " " + rules))


def grammar_from(schema, kind):
    """The grammar in which the root has the type; types that are not reached from it are left out."""
    types = {}
    todo = [kind]
    while todo:
        name = todo.pop()
        if name not in types:
            types[name] = schema["types"][name]
            todo.extend(other for other in schema["types"] if ("type", other) in parts_of(types[name][2]))
    return Grammar({"root": kind, "types": types})


def parts_of(content):
    """All contents within a content, itself included."""
    inner = content[1] if content[0] in ("seq", "or") else content[1:]
    return [content] + [part for other in inner if isinstance(other, tuple) for part in parts_of(other)]


class CasesTest(unittest.TestCase):
    def check(self, attributes, rules, expected, kind="a"):
        facts = facts_of("root a\na = e " + attributes + " : b?\nb = f @x : a?\n", rules)
        self.assertEqual(facts.cases(kind), expected)

    def test_constant(self):
        self.assertEqual(MOST_CASES, 100)

    def test_attributes_that_do_not_matter(self):
        self.check("", "", [()])
        self.check("@x", "", [()])
        self.check("@x!", "", [(("x", ""),)])
        self.check("@x @y! @z", "", [(("y", ""),)])
        # In values of attributes of makes they do not matter, nor by rules for other types.
        self.check("@x @y!", "rule m a { make p ( q = @ x + @ y ) { } } rule m b { @ x if @ x = \"1\" { } }", [(("y", ""),)])

    def test_values(self):
        self.check("@x", "rule m a { @ x }", [(), (("x", ""),), (("x", "a"),)])
        self.check("@x!", "rule k a { @ x }", [(("x", ""),), (("x", "a"),)])
        # Within other items.
        for rule in ("make p { @ x }", 'if @ x { } else { @ x }', "make p { make q { @ x } }"):
            self.check("@x", "rule m a { " + rule + " }", [(), (("x", ""),), (("x", "a"),)])

    def test_ifs(self):
        self.check("@x!", "rule m a { if @ x { } }", [(("x", ""),), (("x", "a"),)])
        self.check("@x", 'rule m a { if @ x = "b" { } }', [(), (("x", "b"),), (("x", ""),), (("x", "a"),)])
        self.check("@x", 'rule m a { if @ x = "" { } }', [(), (("x", ""),), (("x", "a"),)])
        self.check("@x", 'rule m a { if @ x = "a" { } }', [(), (("x", "a"),), (("x", ""),), (("x", "aa"),)])
        self.check("@x!", 'rule m a { if @ x = "aa" { } }', [(("x", "aa"),), (("x", ""),), (("x", "a"),)])
        self.check("@x!", 'rule m a { if @ x = "aa" { } if @ x = "" { } if @ x = "a" { } }',
                   [(("x", ""),), (("x", "a"),), (("x", "aa"),), (("x", "aaa"),)])

    def test_strings_of_all_rules(self):
        rules = 'rule m a { if @ x = "c" { if @ x = "b" { } } } rule k a { make p { if @ x = "c" { } else { if @ x = "Z" { } } } }'
        self.check("@x", rules, [(), (("x", "Z"),), (("x", "b"),), (("x", "c"),), (("x", ""),), (("x", "a"),)])
        self.check("@x", rules + ' rule m b { if @ x = "d" { } }', [
            (), (("x", "d"),), (("x", ""),), (("x", "a"),)], "b")

    def test_order(self):
        x = ["", "a"]
        y = [None, "1", "", "a"]
        z = [None, "", "a"]
        expected = [tuple((name, value) for name, value in zip("wxyz", row) if value is not None)
                    for row in itertools.product([""], x, y, z)]
        self.check("@v @w! @x! @y @z", 'rule m a { @ x if @ y = "1" { } } rule k a { if @ z { } }', expected)
        self.assertEqual(len(expected), 24)

    def test_most_cases(self):
        def rules(*numbers):
            return "rule m a { " + " ".join('if @ %s = "s%d" { }' % (name, number) for name, many in zip("wxyz", numbers)
                                             for number in range(many)) + " }"

        # A needed attribute with so many strings has two more choices.
        self.assertEqual(len(facts_of("root a\na = a @w! @x! : empty\n", rules(8, 8)).cases("a")), 100)
        with self.assertRaises(TooMany):
            facts_of("root a\na = a @w! @x : empty\n", rules(8, 8))
        with self.assertRaises(TooMany):
            facts_of("root a\na = a @w! @x! @y : empty\n", rules(8, 8, 1))
        with self.assertRaises(TooMany):
            facts_of("root r\nr = r : a\na = a @w! @x! : empty\n", rules(9, 8))
        values = " ".join("@ x%d" % number for number in range(8))
        with self.assertRaises(TooMany):
            facts_of("root a\na = a " + " ".join("@x%d" % number for number in range(8)) + " : empty\n",
                     "rule m a { " + values + " }")

    def test_some_case_has_the_same_parts(self):
        chance = random.Random(35)
        for _ in range(100):
            grammar = Grammar(random_schema(chance, small_content, is_schema))
            program = random_program(chance, grammar)
            try:
                facts = Facts(grammar, program)
            except TooMany:
                continue
            for kind in grammar.types():
                rows = {shapes(facts, kind, attributes) for attributes in facts.cases(kind)}
                for _ in range(10):
                    attributes = tuple((name, chance.choice(STRINGS + ["q"])) for name, needed in
                                       grammar.attributes_of(kind) if needed or chance.random() < 0.6)
                    self.assertIn(shapes(facts, kind, attributes), rows)


def shapes(facts, kind, attributes):
    """The settled parts of all rules for the type, but for the strings."""
    found = []
    for mode in sorted(facts.program["modes"]):
        for part in facts.parts(mode, kind, attributes):
            if part[0] == "event" and part[1][0] == "start":
                part = part[1][:2] + tuple(name for name, _ in part[1][2])
            found.append(part if part[0] != "event" or part[1][0] != "signs" else "signs")
        found.append(mode)
    return tuple(found)


class PartsTest(unittest.TestCase):
    def test_fields(self):
        grammar = Grammar(read_schema("root a\na = a : chars\n"))
        program = parse_program("start m mode m keeps")
        facts = Facts(grammar, program)
        self.assertIs(facts.grammar, grammar)
        self.assertIs(facts.program, program)

    def test_parts_and_lanes(self):
        facts = facts_of("root a\na = a @x : chars\n", 'rule m a { each m ( char ) if @ x = "1" { @ x make p { each k '
                         '( a , char ) } } else { each k ( a ) } each m ( char ) }')
        first, last = ("lane", "m", ("char",)), ("lane", "m", ("char",))
        self.assertEqual(facts.parts("m", "a", (("x", "1"),)), (
            first, ("event", ("signs", "1")), ("event", ("start", "p", ())), ("lane", "k", ("a", "char")),
            ("event", ("end", "p")), last))
        self.assertEqual(facts.lanes("m", "a", (("x", "1"),)), [("m", ("char",)), ("k", ("a", "char")), ("m", ("char",))])
        for attributes in ((), (("x", ""),), (("x", "2"),), (("x", "not one of the cases"),)):
            self.assertEqual(facts.parts("m", "a", attributes), (first, ("lane", "k", ("a",)), last))
            self.assertEqual(facts.lanes("m", "a", attributes), [("m", ("char",)), ("k", ("a",)), ("m", ("char",))])
            self.assertEqual(facts.parts("k", "a", attributes), ())
            self.assertEqual(facts.lanes("k", "a", attributes), [])

    def test_values_of_other_attributes(self):
        facts = facts_of("root a\na = a @x @y : chars\n", "rule m a { make p ( q = @ y ) { @ x } }")
        attributes = (("x", "long"), ("y", "longer"))
        self.assertEqual(facts.parts("m", "a", attributes), (
            ("event", ("start", "p", (("q", "longer"),))), ("event", ("signs", "long")), ("event", ("end", "p"))))

    def test_random(self):
        chance = random.Random(34)
        for _ in range(100):
            grammar = Grammar(random_schema(chance, small_content, is_schema))
            program = random_program(chance, grammar)
            facts = Facts(grammar, program)
            for kind in grammar.types():
                for mode in program["modes"]:
                    for attributes in facts.cases(kind):
                        parts = settled(body_of(program, mode, kind), attributes)
                        self.assertEqual(facts.parts(mode, kind, attributes), parts)
                        self.assertEqual(facts.lanes(mode, kind, attributes), [
                            (part[1], part[2]) for part in parts if part[0] == "lane"])

    def test_returned_lists_are_new(self):
        facts = facts_of("root a\na = a @x : a?, chars\n", "rule m a { each m ( a ) @ x }")
        for told in (facts.cases, facts.round_edges):
            before = told("a")
            told("a").append("more")
            told("a").clear()
            self.assertEqual(told("a"), before)
        facts.lanes("m", "a", ()).clear()
        self.assertEqual(facts.lanes("m", "a", ()), [("m", ("a",))])
        element = facts.giving_element("m", "a")
        facts.giving_element("m", "a").clear()
        self.assertEqual(facts.giving_element("m", "a"), element)


RECURSIVE = "root a\na = a @x : b*, c?\nb = b : a | d\nc = c : c?, d\nd = d : chars\n"


class GivesTest(unittest.TestCase):
    def check(self, rules, expected, schema=RECURSIVE, modes="mode k drops mode m keeps"):
        """Expected are the pairs of modes and types that give something."""
        facts = facts_of(schema, rules, modes)
        found = {mode + kind for mode in facts.program["modes"] for kind in facts.grammar.types()
                 if facts.gives(mode, kind)}
        self.assertEqual(found, set(expected.split()))
        for mode in facts.program["modes"]:
            for kind in facts.grammar.types():
                self.assertIs(facts.gives(mode, kind), mode + kind in found)
                self.assertIs(facts.gives_symbol(mode, kind), mode + kind in found)
                check_giving(self, facts, mode, kind)
            self.assertIs(facts.gives_symbol(mode, "char"), facts.program["modes"][mode])

    def test_own_events(self):
        self.check('rule m d { "x" }', "md")
        self.check('rule m d { "" }', "")
        self.check("rule m d { make p { } }", "md")
        self.check("rule m a { @ x }", "ma")
        self.check('rule m a { if @ x = "1" { "y" } } rule k a { if @ x { } else { "y" } }', "ma ka")
        # No attributes choose both.
        self.check('rule m a { if @ x = "1" { if @ x = "2" { "y" } } } rule k a { if @ x = "" { @ x } }', "")

    def test_signs(self):
        self.check("rule m d { each m ( char ) } rule k d { each k ( char ) }", "md")
        self.check("rule m d { each k ( char ) } rule k d { each m ( char ) }", "kd")
        # No sign can come there.
        self.check("rule m a { each m ( char ) } rule m b { each m ( char ) }", "")

    def test_children(self):
        self.check("rule m a { each m ( b ) } rule m b { each m ( d ) } rule m d { each m ( char ) }", "ma mb md")
        self.check("rule m a { each k ( b ) } rule m b { each m ( d ) } rule m d { each m ( char ) }", "mb md")
        # A d is no child of an a.
        self.check("rule m a { each m ( d , char ) } rule m d { each m ( char ) }", "md")

    def test_recursion(self):
        self.check("rule m a { each m ( b ) } rule m b { each m ( a ) }", "")
        self.check("rule m c { each m ( c ) }", "")
        self.check('rule m a { each m ( b ) } rule m b { each m ( a ) } rule k a { "x" each k ( b ) } rule k b { each k ( a ) }',
                   "ka kb")
        self.check("rule m a { each k ( b ) } rule k b { each m ( a ) } rule m c { each k ( c ) } rule k c { each m ( c ) each m"
                   " ( d ) } rule m d { each m ( char ) }", "mc kc md")
        self.check('rule m a { each m ( b ) } rule m b { each m ( a ) each k ( d ) } rule k d { make p { } }', "ma mb kd")

    def test_missing_rules(self):
        self.check("", "")
        self.check('rule m a { each m ( b ) } rule k b { "x" }', "kb")

    def test_random(self):
        chance = random.Random(36)
        told = {True: 0, False: 0}
        for _ in range(300):
            schema = random_schema(chance, small_content, is_schema)
            grammar = Grammar(schema)
            program = random_program(chance, grammar)
            facts = Facts(grammar, program)
            for mode in program["modes"]:
                for kind in grammar.types():
                    told[facts.gives(mode, kind)] += 1
                    check_giving(self, facts, mode, kind)
                    # No element gives anything, or none with fewer events than the one that is told.
                    own = grammar_from(schema, kind)
                    element = facts.giving_element(mode, kind)
                    most = 9 if element is None else min(len(element) - 1, 9)
                    for document in some(all_documents(own, facts.cases, most, 60), 60):
                        self.assertEqual(plain_meaning(own, dict(program, start=mode), document), [])
        self.assertGreater(min(told.values()), 300)


def check_giving(test, facts, mode, kind):
    """The giving element is a valid one that gives something, and the same each time."""
    element = facts.giving_element(mode, kind)
    test.assertEqual(element is not None, facts.gives(mode, kind))
    if element is None:
        return
    test.assertIsInstance(element, list)
    test.assertEqual(Facts(facts.grammar, facts.program).giving_element(mode, kind), element)
    own = grammar_from(facts.grammar.schema(), kind)
    test.assertEqual(validate(own, element), (-1, ""))
    test.assertGreater(len(plain_meaning(own, dict(facts.program, start=mode), element)), 0)


class GivingElementTest(unittest.TestCase):
    def test_attributes(self):
        facts = facts_of("root a\na = a @x @y! : empty\n", 'rule m a { if @ x = "1" { @ y } }')
        self.assertEqual(facts.giving_element("m", "a"), [("start", "a", (("x", "1"), ("y", "a"))), ("end", "a")])

    def test_children_around(self):
        facts = facts_of("root a\na = a : b, b, c, b\nb = b @x! : empty\nc = c : chars\n",
                         "rule m a { each m ( c ) } rule m c { each m ( char ) }")
        child = [("start", "b", (("x", ""),)), ("end", "b")]
        self.assertEqual(facts.giving_element("m", "a"), [
            ("start", "a", ()), *child, *child, ("start", "c", ()), ("char", "a"), ("end", "c"), *child, ("end", "a")])

    def test_fewest_events(self):
        # By a sign, by a b within a d, by an e with a b in it; the least one is taken.
        rules = ('rule m a { each m ( b , c , char ) } rule m b { "x" } rule m c { each m ( d , e ) } rule m d { each m ( b ) } '
                 'rule m e { each m ( b ) } rule k a { each k ( c ) } rule k c { each m ( d , e ) }')
        tail = "\nb = b : empty\nc = c : d | e\nd = d : b, b\ne = e : b\n"
        for content, expected in (("b | c | chars", "<a>a</a>"), ("b | c", "<a><b/></a>"), ("c", "<a><c><e><b/></e></c></a>"),
                                  ("(c, b) | (c, c)", "<a><c><e><b/></e></c><b/></a>"), ("(b, b, c?) | chars", "<a>a</a>")):
            facts = facts_of("root a\na = a : " + content + tail, rules)
            self.assertEqual(facts.giving_element("m", "a"), read_text([ord(sign) for sign in expected]))
        facts = facts_of("root a\na = a : (b, b, b, b, c) | (b, b, c, b)" + tail, rules)
        self.assertEqual(len(facts.giving_element("k", "a")), 2 + 6 + 6)

    def test_too_many(self):
        # Each type has two children of the type before it: a great element.
        great = "b0 = b : empty\n" + "".join(f"b{k + 1} = b : c{k}, b{k}\nc{k} = c : b{k}\n" for k in range(9))
        for text in ("a = a : b9\n", "a = a : b9, d\n", "a = a : d, b9\n", "a = a : e, b9\n"):
            facts = facts_of("root r\nr = r : a | b9 | d | e\n" + text + great + "d = d : chars\ne = f : empty\n",
                             'rule m a { "x" } rule k a { each m ( d ) } rule m d { "x" } rule m r { each m ( d ) }')
            with self.assertRaises(TooMany):
                facts.giving_element("m", "a")
            if "d" in text[6:]:
                with self.assertRaises(TooMany):
                    facts.giving_element("k", "a")
            else:
                self.assertIsNone(facts.giving_element("k", "a"))
            self.assertEqual(facts.giving_element("m", "d"), [("start", "d", ()), ("end", "d")])
            self.assertEqual(facts.giving_element("m", "r"), [
                ("start", "r", ()), ("start", "d", ()), ("end", "d"), ("end", "r")])

    def test_great_rows(self):
        # A least row of 1000 events is none too many: 25 children of 40 events each.
        for many, expected in ((25, 1004), (26, None)):
            facts = facts_of("root a\na = a : " + ", ".join(["b"] * many) + ", c?\nb = b : " + ", ".join(["d"] * 19) +
                             "\nc = c : chars\nd = d : empty\n", 'rule m a { each m ( c ) } rule m c { "x" }')
            if expected is None:
                with self.assertRaises(TooMany):
                    facts.giving_element("m", "a")
            else:
                self.assertEqual(len(facts.giving_element("m", "a")), expected)

    def test_no_great_children_where_others_do(self):
        great = "b0 = b : empty\n" + "".join(f"b{k + 1} = b : c{k}, b{k}\nc{k} = c : b{k}\n" for k in range(9))
        facts = facts_of("root a\na = a : (b9 | d)*\n" + great + "d = d : empty\n",
                         'rule m a { each m ( b9 , d ) } rule m b9 { "x" } rule m d { "x" }')
        self.assertEqual(facts.giving_element("m", "a"), [("start", "a", ()), ("start", "d", ()), ("end", "d"), ("end", "a")])


class LiveTest(unittest.TestCase):
    def check(self, content, rules, rows):
        """Rows: a lane as a string, and the states at which it is live."""
        facts = facts_of("root a\na = a : " + content + "\nb = b : empty\nc = c : chars\nd = d : empty\n"
                         "r = r : b, c, d\n", rules)
        states = states_of(facts.grammar.automaton("a"))
        for lane, expected in rows:
            mode, *symbols = lane.split()
            live = [state for state in range(states) if facts.live(mode, tuple(symbols), "a", state)]
            self.assertEqual(live, expected, lane)
            for state in range(states):
                self.assertIs(facts.live(mode, tuple(symbols), "a", state), state in expected)

    def test_seq(self):
        # b leads from 0 to 1, c to 2, a sign from 2 to 2, d to 3, r nowhere.
        self.check("b, c, chars, d, r?", 'rule m b { "x" } rule m c { each m ( char ) } rule k d { "x" }', [
            ("m b", [0]), ("k b", []), ("m c", [0, 1]), ("k c", []), ("m char", [0, 1, 2]), ("k char", []), ("m d", []),
            ("k d", [0, 1, 2]), ("m b c", [0, 1]), ("m b char", [0, 1, 2]), ("k b c char d", [0, 1, 2]), ("k b c char", [])])

    def test_choice(self):
        # Once a c has come no b can come any more.
        self.check("b* | c*, r", 'rule m b { "x" } rule m c { "x" }', [
            ("m b", [0, 1]), ("m c", [0, 2]), ("m b c", [0, 1, 2]), ("m d", []), ("m r", [])])

    def test_star(self):
        self.check("(b, c, r)*", 'rule m b { "x" } rule m c { "x" }', [
            ("m b", [0, 1, 2]), ("m c", [0, 1, 2]), ("k b c", []), ("m r", [])])

    def test_random(self):
        chance = random.Random(37)
        for _ in range(150):
            grammar = Grammar(random_schema(chance, small_content, is_schema))
            program = random_program(chance, grammar)
            facts = Facts(grammar, program)
            for kind in grammar.types():
                _, edges = grammar.automaton(kind)
                for state in range(states_of((0, edges))):
                    # The states that ways of any length lead to.
                    ahead = {state}
                    for _ in edges:
                        ahead |= {end for begin, _, end in edges if begin in ahead}
                    coming = {symbol for begin, symbol, _ in edges if begin in ahead}
                    for mode in program["modes"]:
                        for symbols in itertools.combinations(sorted(grammar.types() + ["char"]), chance.randrange(1, 3)):
                            expected = any(symbol in coming and facts.gives_symbol(mode, symbol) for symbol in symbols)
                            self.assertIs(facts.live(mode, symbols, kind, state), expected)
                            # Live at one state of a part, live at all of it.
                            for begin, _, end in facts.round_edges(kind):
                                self.assertEqual(facts.live(mode, symbols, kind, begin), facts.live(mode, symbols, kind, end))

    def test_live_is_what_can_give(self):
        facts = facts_of(RECURSIVE, "rule m a { each m ( b ) } rule m b { each m ( a ) } rule m c { each m ( c , d ) } "
                                    "rule m d { each m ( char ) }")
        self.assertIs(facts.live("m", ("b",), "a", 0), False)
        self.assertIs(facts.live("m", ("b", "c"), "a", 0), True)
        self.assertIs(facts.live("m", ("c",), "a", 1), False)


class RoundEdgesTest(unittest.TestCase):
    def check(self, content, expected):
        facts = facts_of("root a\na = a : " + content + "\nb = b : b?\nc = c : b?\n", "")
        self.assertEqual(facts.round_edges("a"), expected)

    def test_edges(self):
        self.check("b, c", [])
        self.check("b*, c", [(0, "b", 0)])
        self.check("chars, b, c", [(0, "char", 0)])
        self.check("(b, c)*", [(0, "b", 1), (1, "c", 0)])
        self.check("b, (b | c)*", [(1, "b", 1), (1, "c", 1)])
        self.check("b, (c, b)*, c?", [(1, "c", 2), (2, "b", 1)])
        self.check("(b, c, c)+, chars", [(1, "c", 2), (2, "c", 3), (3, "b", 1), (4, "char", 4)])

    def test_random(self):
        chance = random.Random(38)
        for _ in range(100):
            grammar = Grammar(random_schema(chance, small_content, is_schema))
            facts = Facts(grammar, {"start": "m", "modes": {"m": True}, "rules": {}})
            for kind in grammar.types():
                self.assertEqual(facts.round_edges(kind), inner_edges(grammar.automaton(kind)))
                edges = grammar.automaton(kind)[1]
                for edge in edges:
                    # A round edge is one that a way leads back over.
                    ahead = {edge[2]}
                    for _ in edges:
                        ahead |= {end for begin, _, end in edges if begin in ahead}
                    self.assertEqual(edge in facts.round_edges(kind), edge[0] in ahead)


class RefusedTest(unittest.TestCase):
    def test_too_many_is_a_stream_error(self):
        self.assertTrue(issubclass(TooMany, StreamError))

    def test_plain_output_has_no_cases(self):
        # The plain meaning has no bound for cases.
        grammar = Grammar(read_schema("root a\na = a " + " ".join("@x%d" % number for number in range(8)) + " : empty\n"))
        program = parse_program("start m mode m keeps rule m a { " + " ".join("@ x%d" % number for number in range(8)) + " }")
        with self.assertRaises(TooMany):
            Facts(grammar, program)
        self.assertEqual(plain_output(grammar, program, [("start", "a", (("x3", "1"),)), ("end", "a")]), [(("signs", "1"), 0)])


if __name__ == "__main__":
    unittest.main()
