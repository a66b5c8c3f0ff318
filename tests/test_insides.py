"""[74], [76]: least insides, valid insides, rows of insides, wide cases."""

import random
import unittest

from hewstream.completions import least_element, weights
from hewstream.errors import TooMany
from hewstream.facts import Facts
from hewstream.insides import is_valid_inside, least_inside, rows_of, wide_cases
from hewstream.schemas import Grammar, is_schema
from hewstream.validator import validate
from program_oracle import STRINGS, all_documents, plain_meaning, random_document, random_program, some
from schema_oracle import random_events, random_schema, small_content
from shorthand import char, events_in, facts_of, grammar_of, inside_in, refused, signs
from test_facts import grammar_from


class LeastTest(unittest.TestCase):
    def test_least(self):
        grammar = grammar_of("root a\na = a @x! : (b | c), chars\nb = b : empty\nc = c : d\nd = d @y! : chars\n")
        self.assertEqual(least_inside(grammar, "a"), inside_in("<b/>"))
        self.assertEqual(least_inside(grammar, "b"), [])
        self.assertEqual(least_inside(grammar, "c"), inside_in('<d y=""/>'))

    def test_random(self):
        chance = random.Random(74)
        for _ in range(100):
            grammar = Grammar(random_schema(chance, small_content, is_schema))
            for kind in grammar.types():
                self.assertEqual(least_inside(grammar, kind), least_element(grammar, kind)[1:-1])
                self.assertIs(is_valid_inside(grammar, kind, least_inside(grammar, kind)), True)

    def test_too_many(self):
        # Insides of 1000 events are told, of more they are not.
        schema = "root a\na = a : {}\n" + "".join(f"{one} = {one} : " + ", ".join([two] * 10) + "\n" for one, two in ("bc", "cd")) + "d = d : empty\n"
        for content, many in (("b, b, b, b, (c, c, c, c, c)", 998), ("b, b, b, b, (c, c, c, c, c), d", 1000), ("b, b, b, b, b", 1110),
                              ("b, b, b, b, (c, c, c, c, c), d, d", 1002)):
            grammar = grammar_of(schema.replace("{}", content))
            self.assertEqual(weights(grammar)["a"], many + 2)
            if many <= 1000:
                self.assertEqual(len(least_inside(grammar, "a")), many)
            else:
                refused(self, TooMany, least_inside, grammar, "a")
            self.assertEqual(len(least_inside(grammar, "b")), 220)


class ValidTest(unittest.TestCase):
    GRAMMAR = grammar_of("root a\na = a : b+, chars\nb = b @x! : chars\n")

    def check(self, text, expected, kind="a"):
        self.assertIs(is_valid_inside(self.GRAMMAR, kind, inside_in(text)), expected)

    def test_insides(self):
        self.check('<b x=""/>', True)
        self.check('<b x=""/><b x="1">xy</b>zz', True)
        self.check("", False)
        self.check("", True, "b")
        self.check("x", True, "b")
        self.check("x", False)
        self.check("<b/>", False)
        self.check('<b x=""/>z<b x=""/>', False)
        self.check('<b x=""><b x=""/></b>', False)
        self.check('<a/>', False)

    def test_what_is_no_inside(self):
        start, end = ("start", "b", (("x", ""),)), ("end", "b")
        for events in ([start], [start, end, ("end", "a")], [("end", "a")], [start, ("end", "a")], [end], [start, end, end],
                       [start, end, ("end", "a"), ("start", "a", ()), start, end]):
            self.assertIs(is_valid_inside(self.GRAMMAR, "a", events), False)
        self.assertIs(is_valid_inside(self.GRAMMAR, "b", [("end", "b"), ("start", "b", (("x", ""),))]), False)

    def test_random(self):
        chance = random.Random(75)
        seen = {True: 0, False: 0}
        for _ in range(400):
            grammar = Grammar(random_schema(chance, small_content, is_schema))
            if chance.random() < 0.5:
                events = random_document(chance, grammar, 8)[1:-1]
            else:
                events = random_events(chance, grammar.schema(), chance.randrange(8))[1:]
            start = [row for row in random_document(chance, grammar, 1)][0]
            whole = [start, *events, ("end", start[1])]
            expected = validate(grammar, whole) == (-1, "")
            self.assertIs(is_valid_inside(grammar, grammar.root, events), expected)
            seen[expected] += 1
        self.assertGreater(min(seen.values()), 60, seen)


class RowsTest(unittest.TestCase):
    def test_offsets(self):
        facts = facts_of("root r\nr = r : a*\na = a @x : (b | chars)*\nb = b : chars\n",
                         'rule m a { "<" each m ( b ) @ x each m ( char ) } rule d a { each m ( b ) } rule m b { "b" each m ( char ) }')
        inside = inside_in("p<b>q</b><b/>r")
        first = (signs("<", 0), signs("b", 2), char("q", 3), signs("b", 5), signs("v", 0), char("p", 1), char("r", 7))
        second = (signs("b", 2), char("q", 3), signs("b", 5))
        attributes = (("x", "v"),)
        self.assertEqual(rows_of(facts, "a", attributes, ("d", "m"), inside), (second, first))
        self.assertEqual(rows_of(facts, "a", attributes, ("m",), inside), (first,))
        self.assertEqual(rows_of(facts, "a", attributes, ("n", "m"), inside), ((), first))
        self.assertEqual(rows_of(facts, "a", (), ("m",), []), ((signs("<", 0),),))
        self.assertEqual(rows_of(facts, "a", attributes, (), inside), ())

    def test_deep(self):
        facts = facts_of("root a\na = a : a?\n", 'rule m a { "x" each m ( a ) }')
        inside = [("start", "a", ())] * 700 + [("end", "a")] * 700
        self.assertEqual(rows_of(facts, "a", (), ("m",), inside), (tuple(signs("x", place) for place in range(701)),))

    def test_against_the_plain_output(self):
        chance = random.Random(76)
        seen = {"events": 0, "modes": 0}
        for _ in range(250):
            grammar = Grammar(random_schema(chance, small_content, is_schema))
            program = random_program(chance, grammar)
            try:
                facts = Facts(grammar, program)
            except TooMany:
                continue
            kind = chance.choice(grammar.types())
            own = grammar_from(grammar.schema(), kind)
            document = random_document(chance, own, chance.randrange(1, 14))
            modes = tuple(mode for mode in sorted(program["modes"]) if chance.random() < 0.7)
            kept = list(document)
            rows = rows_of(facts, kind, document[0][2], modes, document[1:-1])
            self.assertEqual(rows, tuple(tuple(plain_meaning(own, {**program, "start": mode}, document)) for mode in modes))
            self.assertEqual(document, kept)
            seen["events"] += sum(map(len, rows)) > 2
            seen["modes"] += len(modes) > 1
        self.assertGreater(min(seen.values()), 50, seen)


class WideCasesTest(unittest.TestCase):
    def check(self, attributes, rules, rows):
        """Rows: for each case its values, None for absent."""
        facts = facts_of("root a\na = e " + attributes + " : b?\nb = f @x : a?\n", rules)
        names = [name for name, _ in facts.grammar.attributes_of("a")]
        expected = [tuple((name, value) for name, value in zip(names, row) if value is not None) for row in rows]
        self.assertEqual(wide_cases(facts, "a"), expected)

    def test_attributes_that_do_not_stand_in_rules(self):
        self.check("", "", [()])
        self.check("@x", "", [(None,)])
        self.check("@x! @y", "rule m b { @ x }", [("", None)])

    def test_where_they_stand(self):
        rows = [(None,), ("",), ("a",), ("aa",)]
        self.check("@x", "rule m a { @ x }", rows)
        self.check("@x", "rule d a { make p ( q = \"-\" + @ x ) { } }", rows)
        self.check("@x", "rule k a { if @ x { } }", rows)
        self.check("@x", "rule k a { make p { make q { if @ x { } } } }", rows)
        self.check("@x!", "rule k a { @ x }", rows[1:])

    def test_strings(self):
        self.check("@x", 'rule m a { if @ x = "b" { if @ x = "" { } } } rule d a { if @ x = "2" { } }',
                   [(None,), ("",), ("2",), ("b",), ("a",), ("aa",)])
        self.check("@x", 'rule m a { if @ x = "b" { } }', [(None,), ("b",), ("",), ("a",), ("aa",)])
        self.check("@x!", 'rule m a { if @ x = "a" { } }', [("a",), ("",), ("aa",), ("aaa",)])
        self.check("@x!", 'rule m a { if @ x = "aa" { if @ x = "a" { } } }', [("a",), ("aa",), ("",), ("aaa",), ("aaaa",)])
        self.check("@x!", 'rule m a { if @ x = "aa" { } }', [("aa",), ("",), ("a",), ("aaa",)])

    def test_order(self):
        self.check("@x @y! @z", 'rule m a { @ x if @ z = "c" { } }', [
            (x, "", z) for x in (None, "", "a", "aa") for z in (None, "c", "", "a", "aa")])

    def test_many(self):
        facts = facts_of("root a\na = a " + " ".join("@" + name for name in "pqrstuv") + " : empty\n",
                         "rule m a { make p { make q ( a = " + " + ".join("@ " + name for name in "pqrstuv") + " ) { } } }")
        cases = wide_cases(facts, "a")
        self.assertEqual((len(cases), len(set(cases))), (4 ** 7, 4 ** 7))
        self.assertEqual(cases[:2], [(), (("v", ""),)])

    def test_all_documents_with_wide_cases(self):
        facts = facts_of("root a\na = a @x : a?\n", 'rule m a { if @ x = "b" { } }')
        self.assertEqual(len(some(all_documents(facts.grammar, lambda kind: wide_cases(facts, kind), 4), 99)), 5 + 25)
        self.assertIn("b", STRINGS)
        self.assertEqual(events_in("<a/>"), [("start", "a", ()), ("end", "a")])


if __name__ == "__main__":
    unittest.main()
