"""[57] to [60]: the bounds of small depths, against all documents of few events."""

import random
import unittest

from hewstream.bounds import bound, least_depths
from hewstream.errors import TooMany
from hewstream.facts import Facts
from hewstream.machine import Machine
from hewstream.pumps import decide
from hewstream.schemas import Grammar, is_schema, read_schema
from hewstream.syntax import parse_program
from hewstream.validator import Validator
from program_oracle import all_documents, deepest, random_program, some
from schema_oracle import random_schema, small_content


def facts_of(schema, rules, modes="mode k drops mode m keeps mode n keeps"):
    return Facts(Grammar(read_schema(schema)), parse_program("start m " + modes + " " + rules))


def kept_behind(facts, events):
    machine = Machine(facts.grammar, facts.program, facts)
    for event in events:
        machine.event(event)
    return machine.kept()


def order_of(facts, events):
    """What beginnings are compared by: the number of events, and then move by move."""
    grammar = facts.grammar
    validator = Validator(grammar)
    keys = []
    for event in events:
        kinds = validator.open_types()
        validator.take(event)
        if event[0] == "start":
            kind = grammar.child_type(kinds[-1], event[1]) if kinds else grammar.root
            keys.append((2, kind, facts.cases(kind).index(event[2])))
        else:
            keys.append(({"end": 0, "char": 1}[event[0]], "", 0))
    return len(events), keys


def short_beginnings(facts, most):
    """All beginnings of valid documents of at most so many events, with the least depth of such documents."""
    found = {}
    for document in all_documents(facts.grammar, facts.cases, most):
        depth = deepest(document)
        for many in range(1, len(document) + 1):
            row = tuple(document[:many])
            found[row] = min(depth, found.get(row, depth))
    return found


class LeastDepthsTest(unittest.TestCase):
    def check(self, schema, expected):
        self.assertEqual(least_depths(facts_of(schema, "")), expected)

    def test_depths(self):
        self.check("root a\na = a : empty\n", {"a": 1})
        self.check("root a\na = a : a?, chars\n", {"a": 1})
        self.check("root a\na = a : b, c?\nb = b : c | d\nc = c : d\nd = d : chars\n", {"a": 3, "b": 2, "c": 2, "d": 1})
        self.check("root a\na = a : b | (a, a)\nb = b : c, d\nc = c : a*\nd = d : c+\n", {"a": 4, "b": 3, "c": 1, "d": 2})

    def test_random(self):
        chance = random.Random(58)
        for _ in range(150):
            grammar = Grammar(random_schema(chance, small_content, is_schema))
            facts = Facts(grammar, {"start": "m", "modes": {"m": True}, "rules": {}})
            found = least_depths(facts)
            self.assertEqual(sorted(found), grammar.types())
            documents = [deepest(document) for document in some(all_documents(grammar, facts.cases, 8, 300), 200)]
            if documents:
                self.assertLessEqual(found[grammar.root], min(documents))
                if found[grammar.root] < 4:
                    self.assertEqual(found[grammar.root], min(documents))


class BoundTest(unittest.TestCase):
    def check(self, schema, rules, expected):
        """Expected are the numbers of the depths from 1 on."""
        facts = facts_of(schema, rules)
        self.assertEqual(decide(facts)[0], "accepted")
        self.assertEqual([bound(facts, depth + 1)[0] for depth in range(len(expected))], expected)
        return [bound(facts, depth + 1)[1] for depth in range(len(expected))]

    def test_one_child_behind_another(self):
        rows = self.check("root a\na = a : (b, c)?\nb = b : empty\nc = c : empty\n",
                          'rule m a { each m ( c ) each m ( b ) } rule m b { "b" "b" } rule m c { "c" }', [0, 2, 2, 2])
        self.assertEqual(rows[0], [("start", "a", ())])
        self.assertEqual(rows[1], [("start", "a", ()), ("start", "b", ())])

    def test_depth(self):
        # Each level keeps its own b while an a can come.
        rules = 'rule m a { each m ( a ) each m ( b ) } rule m b { "b" }'
        rows = self.check("root a\na = a : b?, a?\nb = b : empty\n", rules, [0, 1, 2, 3, 4, 5])
        self.assertEqual(rows[3], [("start", "a", ()), ("start", "b", ()), ("end", "b")] * 2 + [
            ("start", "a", ()), ("start", "b", ())])
        self.check("root a\na = a : (b, b, a, a)?\nb = b : empty\n", rules, [0, 2, 4, 6, 8, 10])
        self.check("root a\na = a : (b, b)?, c?\nb = b : empty\nc = c : a\n",
                   'rule m a { each m ( c ) each m ( b ) } rule m b { "b" } rule m c { each m ( a ) }', [0, 2, 2, 4, 4, 6])

    def test_own_events(self):
        # Events behind the first live lane of their frame are not written; those of ended blocked frames are.
        rows = self.check("root a\na = a : (a, b)?\nb = b : empty\n",
                          'rule m a { each m ( b ) each m ( a ) "1" "2" } rule m b { "b" }', [0, 2, 5, 8, 11, 14])
        self.assertEqual(rows[1], [("start", "a", ()), ("start", "a", ()), ("end", "a")])
        # The inner a has ended: its "1" and "2", the "b" and those of the innermost one.
        self.assertEqual(rows[2], [("start", "a", ())] * 3 + [("end", "a"), ("start", "b", ())])

    def test_live_knows_nothing_of_the_depth(self):
        # Of depth 1 no b can come, but the lane of the b is live.
        self.check("root a\na = a : chars, b?\nb = b : empty\n", 'rule m a { "1" each m ( b ) "2" } rule m b { "b" }', [0, 0])
        rows = self.check("root a\na = a @x : b?\nb = b : c?\nc = c : empty\n",
                          'rule m a { each m ( b ) each n ( b ) } rule m b { each m ( c ) } rule n b { "n" } rule m c { "c" }',
                          [0, 1, 1])
        self.assertEqual(rows[1], [("start", "a", ()), ("start", "b", ())])

    def test_no_document_of_the_depth(self):
        schema = "root a\na = a : b\nb = b : c | (c, c)\nc = c : chars\n"
        facts = facts_of(schema, 'rule m a { each m ( b ) } rule m b { each m ( c ) each n ( c ) } rule m c { "c" } rule n c { "n" }')
        for depth in (1, 2):
            self.assertEqual(bound(facts, depth), (0, []))
        for depth in (3, 4, 5, 6):
            self.assertEqual(bound(facts, depth), (1, [("start", "a", ()), ("start", "b", ()), ("start", "c", ())]))

    def test_refused(self):
        facts = facts_of("root a\na = a : b\nb = b : (c | chars)*\nc = c : empty\n",
                         'rule m a { each m ( b ) } rule m b { each m ( char ) each m ( c ) } rule m c { "c" }')
        for depth in range(1, 7):
            self.assertIsNone(bound(facts, depth))

    def test_nothing_kept(self):
        for schema, rules in (("root a\na = a @x! : a*\n", 'rule m a { @ x each m ( a ) "1" }'), ("root a\na = a @x! : a*\n", "")):
            rows = self.check(schema, rules, [0] * 6)
            first = (("x", ""),)
            self.assertEqual(rows, [[("start", "a", first)]] * 6)

    def test_types_that_cannot_end_within_the_depth(self):
        # A c needs two more levels: only deep enough is it there at all, and what keeps the c is kept.
        schema = "root a\na = a : (b | c), e?\nb = b : empty\nc = c : d\nd = d : b\ne = e : empty\n"
        rules = ('rule m a { each m ( e ) each m ( b , c ) } rule m b { "b" } rule m c { "c" "c" each m ( d ) } rule m d { "d" '
                 'each m ( b ) } rule m e { "e" }')
        rows = self.check(schema, rules, [0, 1, 1, 4, 4])
        self.assertEqual(rows[3], [("start", name, ()) for name in "acdb"])

    def test_contents_that_cannot_end_within_the_depth(self):
        # Behind a b must come a c, which needs two levels more: of depth 2 no b can come.
        schema = "root a\na = a : (b, c, e?) | (d, e)\nb = b : empty\nc = c : d\nd = d : chars\ne = e : empty\n"
        rules = 'rule m a { each m ( e ) each m ( b , d ) } rule m b { "1" "2" "3" } rule m d { "d" } rule m e { "e" }'
        rows = self.check(schema, rules, [0, 1, 3, 3])
        self.assertEqual(rows[1:3], [[("start", "a", ()), ("start", "d", ())], [("start", "a", ()), ("start", "b", ())]])

    def test_a_sign_comes_before_a_start(self):
        # Behind a sign, or a d, no b can come any more, and what stands behind it is written.
        schema = ("root a\na = a : e, s\ne = e : (b | chars), d\nb = b : f\nd = d : empty\nf = f : empty\n"
                  "s = s : empty\n")
        rules = ('rule m a { each m ( s ) each m ( e ) } rule m e { each m ( b ) "1" "2" } rule m b { each m ( f ) } rule m f '
                 '{ "f" } rule m s { "s" }')
        rows = self.check(schema, rules, [0, 0, 2, 3])
        self.assertEqual(rows[1:], [[], [("start", "a", ()), ("start", "e", ()), ("char", "a")], [
            ("start", "a", ()), ("start", "e", ()), ("start", "b", ()), ("start", "f", ())]])

    def test_an_end_comes_before_a_sign(self):
        schema = "root a\na = a : e, s\ne = e : b? | chars\nb = b : empty\ns = s : empty\n"
        rules = 'rule m a { each m ( s ) each m ( e ) } rule m e { each m ( b ) "1" "2" } rule m b { "b" } rule m s { "s" }'
        rows = self.check(schema, rules, [0, 2, 3])
        self.assertEqual(rows[1:], [[("start", "a", ()), ("start", "e", ()), ("end", "e")], [
            ("start", "a", ()), ("start", "e", ()), ("start", "b", ())]])

    def test_order_of_beginnings(self):
        # An end before a sign before starts; types before cases.
        schema = "root a\na = a @x : (c | d | b), e?\nb = z : empty\nc = y : empty\nd = w @v! : empty\ne = e : empty\n"
        for rules, expected in (
                ('rule m b { "b" } rule m c { "c" }', ("start", "z", ())),
                ('rule m c { "c" } rule m d { "d" }', ("start", "y", ())),
                ('rule m d { if @ v = "1" { "d" } }', ("start", "w", (("v", "1"),))),
                ('rule m d { if @ v = "" { } else { "d" } }', ("start", "w", (("v", "a"),))),
                ('rule m d { if @ v { "d" } }', ("start", "w", (("v", ""),)))):
            rules += ' rule m a { if @ x = "q" { } each m ( e ) each m ( b , c , d ) } rule m e { "e" }'
            self.assertEqual(bound(facts_of(schema, rules), 2), (1, [("start", "a", ()), expected]))
        rows = self.check("root a\na = a : chars, b?, c?\nb = b : empty\nc = c : chars\n",
                          'rule m a { each m ( b ) each m ( c ) } rule m b { "b" } rule m c { "c" }', [0, 0])
        self.assertEqual(rows[1], [("start", "a", ())])

    def test_signs(self):
        schema = "root a\na = a : b, c\nb = b : chars, d?\nc = c : chars\nd = d : empty\n"
        rules = 'rule m a { each m ( c ) each m ( b ) } rule m b { each n ( char ) "-" } rule m c { "c" }'
        facts = facts_of(schema, rules)
        self.assertIsNone(bound(facts, 2))
        schema = "root a\na = a : b, c\nb = b : d?\nc = c : chars\nd = d : chars\n"
        rules = 'rule m a { each m ( c ) each m ( b ) } rule m b { each n ( d ) "-" } rule m c { "c" } rule n d { "d" }'
        self.check(schema, rules, [0, 1, 2, 2])

    def test_cases(self):
        schema = "root a\na = a @x : b, c\nb = b @y : empty\nc = c : empty\n"
        rules = ('rule m a { if @ x = "1" { each m ( c ) } each m ( b ) } rule m c { "c" } rule m b { if @ y = "1" { "1" } else '
                 '{ "2" "2" "2" } }')
        rows = self.check(schema, rules, [0, 3])
        self.assertEqual(rows[1], [("start", "a", (("x", "1"),)), ("start", "b", ())])

    def test_random(self):
        chance = random.Random(57)
        seen = {"refused": 0, "none": 0, "reached": 0, "great": 0}
        for _ in range(350):
            grammar = Grammar(random_schema(chance, small_content, is_schema))
            facts = Facts(grammar, random_program(chance, grammar, chance.random() < 0.4))
            if sum(len(facts.cases(kind)) for kind in grammar.types()) > 12:
                continue
            depths = range(1, 4)
            if decide(facts)[0] == "refused":
                self.assertEqual([bound(facts, depth) for depth in depths], [None] * 3)
                seen["refused"] += 1
                continue
            beginnings = short_beginnings(facts, 8)
            if len(beginnings) > 20000:
                continue
            rows = [(row, depth, kept_behind(facts, row)) for row, depth in beginnings.items()]
            for depth in depths:
                number, events = bound(facts, depth)
                if events == []:
                    self.assertEqual(number, 0)
                    self.assertFalse([row for row, deep, _ in rows if deep <= depth])
                    seen["none"] += 1
                    continue
                self.check_first(facts, depth, number, events, rows)
                seen["reached"] += tuple(events) in beginnings and number > 0
                seen["great"] += number > 1
        self.assertGreater(min(seen.values()), 15, seen)

    def check_first(self, facts, depth, number, events, rows):
        """No beginning of a document of this depth keeps more, and none before this one keeps as much."""
        self.assertEqual(kept_behind(facts, events), number)
        self.assertLessEqual(deepest(events), depth)
        order = order_of(facts, events)
        for row, deep, kept in rows:
            if deep <= depth:
                self.assertLessEqual(kept, number, (facts.grammar.schema(), facts.program, row))
                if kept == number:
                    self.assertLessEqual(order, order_of(facts, row))

    def test_least_depth_is_not_passed(self):
        # The beginning can be ended within the depth.
        chance = random.Random(59)
        for _ in range(200):
            grammar = Grammar(random_schema(chance, small_content, is_schema))
            facts = Facts(grammar, random_program(chance, grammar, False))
            for depth in (1, 2, 3):
                told = bound(facts, depth)
                if told is not None and told[1]:
                    self.assertTrue(can_end(grammar, told[1], depth))

    def test_too_many_blocking_states(self):
        many = 3001
        types = {f"t{number}": ("t", (), ("type", f"t{number + 1}")) for number in range(many - 1)}
        types[f"t{many - 1}"] = ("t", (), ("chars",))
        rules = {("m", f"t{number}"): (("each", "m", (f"t{number + 1}",)),) for number in range(many - 1)}
        facts = Facts(Grammar({"root": "t0", "types": types}), {"start": "m", "modes": {"m": True}, "rules": rules})
        with self.assertRaises(TooMany):
            bound(facts, 2)


def can_end(grammar, events, depth):
    """True if some events lead from these to the end of a document, no deeper than this."""
    validator = Validator(grammar)
    for event in events:
        validator.take(event)
    todo = [validator]
    met = set()
    while todo:
        at = todo.pop()
        if at.is_complete():
            return True
        key = tuple(at.open_types()), tuple(at.states())
        if key in met or len(key[0]) > depth:
            continue
        met.add(key)
        for row in at.expected():
            behind = at.copied()
            if row[0] == "start":
                kind = grammar.child_type(key[0][-1], row[1])
                row = (*row, tuple((name, "") for name, needed in grammar.attributes_of(kind) if needed))
            behind.take(row if row[0] != "char" else ("char", "a"))
            todo.append(behind)
    return False


if __name__ == "__main__":
    unittest.main()
