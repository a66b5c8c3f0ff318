"""[52] to [56]: which programs are accepted, and the papers of both answers with their judges."""

import copy
import itertools
import random
import unittest

from frame_oracle import Moment
from hewstream.blocking import after_edge, all_blocking, first_blocking
from hewstream.completions import start_event
from hewstream.errors import TooMany
from hewstream.facts import Facts
from hewstream.machine import Machine
from hewstream.pumps import decide, has_pump, judge_pump, judge_table
from hewstream.schemas import Grammar, is_schema, read_schema
from hewstream.syntax import parse_program
from hewstream.tokens import read_text
from hewstream.validator import validate
from program_oracle import plain_meaning, random_program
from samples import ODD_CONTENTS, Same
from schema_oracle import random_schema, small_content


def facts_of(schema, rules, modes="mode k drops mode m keeps mode n keeps"):
    return Facts(Grammar(read_schema(schema)), parse_program("start m " + modes + " " + rules))


def certain(facts, begin, rest):
    """The number K of the document, from the plain meaning."""
    behind = [place < len(begin) for _, place in plain_meaning(facts.grammar, facts.program, begin + rest)]
    return sum(behind[behind.index(False):]) if False in behind else 0


class HasPumpTest(unittest.TestCase):
    SCHEMA = "root a\na = a @x : (b | c)*, d?\nb = b : chars\nc = c : c?\nd = d : b*, c\n"
    TEXTS = ' rule m b { "b" } rule m c { "c" } rule k b { "b" } rule n c { "c" } rule m d { "d" }'

    def check(self, rules, expected, state=("a", (), ("m",), ()), schema=None):
        facts = facts_of(schema or self.SCHEMA, rules + self.TEXTS)
        self.assertEqual(has_pump(facts, state), expected)

    def test_free_behind_a_live_lane_of_its_rule(self):
        self.check("rule m a { each m ( b ) each m ( c ) }", ((), (0, "c", 0), ("m", 1), ("m", 0)))
        self.check("rule m a { each m ( b ) }", None)
        self.check("rule m a { each m ( b , c ) }", None)
        self.check("rule m a { each m ( b ) each m ( b ) }", ((), (0, "b", 0), ("m", 1), ("m", 0)))
        self.check("rule m a { each m ( d ) each k ( b ) }", ((), (0, "b", 0), ("m", 1), ("m", 0)))
        # No round edge leads by a d; what gives nothing is no pump, and blocks nothing.
        self.check("rule m a { each m ( b ) each m ( d ) }", None)
        self.check("rule m a { each m ( b ) each k ( c ) }", None)
        self.check("rule m a { each n ( b ) each m ( c ) }", None)
        self.check("rule m a { each n ( b ) each m ( b ) each k ( b ) }", ((), (0, "b", 0), ("m", 2), ("m", 1)))

    def test_the_first_live_lane(self):
        self.check("rule m a { each n ( b ) each m ( d ) each m ( c ) each k ( b ) }", ((), (0, "b", 0), ("m", 3), ("m", 1)))

    def test_live_at_the_states_of_the_edge(self):
        schema = "root a\na = a : b, c*, d?\nb = b : empty\nc = c : empty\nd = d : empty\n"
        self.check("rule m a { each m ( b ) each m ( c ) }", None, schema=schema)
        self.check("rule m a { each m ( d ) each m ( c ) }", ((), (1, "c", 1), ("m", 1), ("m", 0)), schema=schema)

    def test_signs(self):
        schema = "root a\na = a : chars, b, c?, d?\nb = b : empty\nc = c : empty\nd = d : empty\n"
        self.check("rule m a { each m ( b ) each m ( char ) }", ((), (0, "char", 0), ("m", 1), ("m", 0)), schema=schema)
        self.check("rule m a { each m ( b ) each k ( char ) }", None, schema=schema)
        self.check("rule m a { each m ( char ) each m ( b ) }", None, schema=schema)

    def test_blocked(self):
        # By a lane of the root a blocked frame has a pump at each round edge that gives something.
        state = ("d", ("m",), (), ())
        self.check("rule n d { each m ( b ) }", ((), (0, "b", 0), ("n", 0), None), ("d", ("n",), (), ()))
        self.check("rule n d { each n ( b ) each k ( b ) }", ((), (0, "b", 0), ("n", 1), None), ("d", ("n",), (), ()))
        self.check("rule n d { each m ( c ) }", None, ("d", ("n",), (), ()))
        self.check("rule n d { each n ( c ) }", None, state)
        self.check("rule n d { each m ( b ) }", None, ("d", (), ("n",), ()))

    def test_pairs(self):
        schema = "root a\na = a : d\nb = b : empty\nc = c : empty\nd = d : (b | c)*\n"
        for pairs, expected in (((), None), ((("n", "k"),), ((), (0, "b", 0), ("k", 0), ("n", 0))), ((("k", "n"),), (
                (), (0, "c", 0), ("n", 0), ("k", 0)))):
            self.check("rule n d { each n ( c ) } rule k d { each k ( b ) }", expected, ("d", (), ("k", "n"), pairs), schema)
        # The least mode with a live lane, and its first live one; a lane of the same rule comes before it.
        rules = "rule n d { each k ( c ) each n ( c ) each n ( c ) } rule k d { each k ( b ) }"
        self.check(rules, ((), (0, "b", 0), ("k", 0), ("n", 1)), ("d", (), ("k", "m", "n"), (("m", "k"), ("n", "k"))),
                   schema)
        self.check("rule n d { each n ( c ) } rule k d { each n ( c ) each k ( b ) }", ((), (0, "b", 0), ("k", 1), ("k", 0)),
                   ("d", (), ("k", "n"), (("n", "k"),)), schema)
        # Two frames of one mode.
        self.check("rule n d { each n ( c ) }", ((), (0, "c", 0), ("n", 0), ("n", 0)), ("d", (), ("n",), (("n", "n"),)), schema)
        self.check("rule n d { each n ( c ) }", None, ("d", (), ("n",), ()), schema)

    def test_cases_come_first(self):
        rules = 'rule m a { if @ x = "1" { each m ( d ) each m ( b ) } else { if @ x { each m ( d ) each m ( c ) } } }'
        self.check(rules, ((("x", "1"),), (0, "b", 0), ("m", 1), ("m", 0)))
        rules = 'rule m a { each m ( d ) if @ x { each m ( b ) } else { each m ( c ) } }'
        self.check(rules, ((), (0, "c", 0), ("m", 1), ("m", 0)))

    def test_edges_come_before_modes_and_these_before_lanes(self):
        schema = "root a\na = a : d\nb = b : empty\nc = c : empty\nd = d : (b | c)*\n"
        rules = "rule k d { each n ( c ) each k ( b ) } rule n d { each k ( b ) each k ( b ) }"
        state = ("d", ("k", "n"), (), ())
        self.check(rules, ((), (0, "b", 0), ("k", 1), None), state, schema)
        self.check("rule n d { each k ( b ) each k ( b ) }", ((), (0, "b", 0), ("n", 0), None), state, schema)


    def test_blocked_and_free_modes_together_ascend(self):
        schema = "root a\na = a : d\nb = b : empty\nc = c : empty\nd = d : (b | c)*\n"
        rules = "rule k d { each n ( c ) each k ( b ) } rule n d { each k ( b ) }"
        self.check(rules, ((), (0, "b", 0), ("k", 1), ("k", 0)), ("d", ("n",), ("k",), ()), schema)
        self.check(rules, ((), (0, "b", 0), ("k", 1), None), ("d", ("k",), ("n",), ()), schema)
        self.check("rule k d { each n ( c ) } rule n d { each k ( b ) }", ((), (0, "b", 0), ("n", 0), None),
                   ("d", ("n",), ("k",), ()), schema)


class DecideTest(unittest.TestCase):
    def check(self, schema, rules, refused):
        facts = facts_of(schema, rules)
        answer, paper = decide(facts)
        self.assertEqual(answer, "refused" if refused else "accepted")
        if refused:
            self.assertIs(judge_pump(facts.grammar, facts.program, paper), True)
        else:
            self.assertEqual(paper, tuple(sorted(all_blocking(facts))))
            self.assertIs(judge_table(facts, paper), True)
        return paper

    def test_example(self):
        schema = "root r\nr = r : a*, b*\na = a : empty\nb = b : empty\n"
        paper = self.check(schema, 'rule m r { each m ( b ) each m ( a ) } rule m a { "a" } rule m b { "b" }', True)
        one, other = [[("start", name, ()), ("end", name)] for name in "ab"]
        self.assertEqual(paper, ([("start", "r", ())], one, [*other, ("end", "r")]))
        self.check(schema, 'rule m r { each m ( a ) each m ( b ) } rule m a { "a" } rule m b { "b" }', False)

    def test_signs(self):
        for rules, refused in (('each m ( char ) "-" each m ( char )', True), ("each m ( char )", False),
                               ("each m ( char ) each k ( char )", False), ('"-" each k ( char ) each m ( char )', False)):
            self.check("root a\na = a : chars\n", "rule m a { " + rules + " }", refused)

    def test_kinds_of_lanes(self):
        schema = "root r\nr = r : (e | s)*\ne = e : (a | b)*\ns = s : empty\na = a : empty\nb = b : chars\n"
        texts = ' rule m s { "s" } rule m a { "a" } rule m b { each m ( char ) } rule n e { each m ( b ) }'
        # A lane of a blocked mode: each b is kept while an s can come.
        self.check(schema, "rule m r { each m ( s ) each m ( e ) } rule m e { each m ( b ) }" + texts, True)
        # Also if the children of the element stand at no round edge.
        self.check(schema.replace("e = e : (a | b)*", "e = e : a, b"),
                   "rule m r { each m ( s ) each m ( e ) } rule m e { each m ( b ) }" + texts, True)
        one = schema.replace("(e | s)*", "e?, s?")
        self.check(one, "rule m r { each m ( s ) each m ( e ) } rule m e { each m ( b ) }" + texts, True)
        for content in ("a, b", "a?, b?"):
            once = one.replace("(a | b)*", content)
            self.check(once, "rule m r { each m ( s ) each m ( e ) } rule m e { each m ( b ) }" + texts, True)
            self.check(once.replace("b = b : chars", "b = b : empty"),
                       'rule m r { each m ( s ) each m ( e ) } rule m e { each m ( b ) } ' + texts.replace("each m ( char )", '"b"'),
                       False)
        # A lane behind a live one of the same rule.
        self.check(schema, "rule m r { each m ( e ) } rule m e { each m ( a ) each m ( b ) }" + texts, True)
        # A lane behind one of another frame of the element.
        self.check(schema.replace("(e | s)*", "e, s?"), "rule m r { each m ( e ) each n ( e ) } rule m e { each m ( a ) }" + texts, True)
        self.check(schema.replace("(e | s)*", "s?, e"), "rule m r { each n ( e ) each m ( s ) } rule m e { each m ( a ) }" + texts, False)

    def test_depth_alone_is_no_pump(self):
        # What is kept grows with the depth, not with the length.
        self.check("root a\na = a : a?, b?\nb = b : empty\n",
                   'rule m a { each m ( b ) each m ( a ) "-" } rule m b { "b" }', False)
        self.check("root a\na = a : a*, b?\nb = b : empty\n",
                   'rule m a { each m ( b ) each m ( a ) "-" } rule m b { "b" }', True)

    def test_live_lanes_far_out(self):
        schema = "root r\nr = r : e, s\ne = e : f\nf = f : g?\ng = g @x! : a*\na = a : empty\ns = s : t*, u\nt = t : empty\nu = u : chars\n"
        rules = ('rule m r { each m ( s ) each n ( e ) } rule n e { each k ( f ) } rule k f { each m ( g ) } rule m g { if @ x = "1" '
                 '{ each n ( a ) } } rule n a { "a" } rule m s { each m ( u ) } rule m u { each m ( char ) }')
        begin, again, rest = self.check(schema, rules, True)
        self.assertEqual(begin[-1], ("start", "g", (("x", "1"),)))
        self.assertEqual(again, [("start", "a", ()), ("end", "a")])
        self.assertIn(("char", "a"), rest)

    def test_the_live_lane_stands_ahead(self):
        # The e within an o is blocked in some frames of the o and not in others, by an s or by a t.
        schema = ("root r\nr = r : o\no = o : e, (s | t | u)?\ne = e : a*\na = a : empty\ns = s : empty\nt = t : empty\n"
                  "u = u : empty\n")
        texts = ' rule n e { each w ( a ) } rule w a { "a" } rule w s { "s" } rule w t { "t" } rule w u { "u" }'
        for first, second in ("pq", "qp"):
            start = f"rule m r {{ each {first} ( o ) each {second} ( o ) }}"
            for one, other in (("each w ( t ) each n ( e )", "each w ( s ) each k ( e )"),
                               ("each w ( t )", "each n ( e ) each w ( s )"),
                               ("each w ( t ) each n ( e ) each w ( u )", "each w ( s ) each n ( e )"),
                               ("each k ( e ) each w ( t ) each n ( e )", "each n ( t ) each w ( u ) each k ( e )"),
                               ("each k ( e )", "each w ( s ) each n ( e ) each w ( u )"),
                               ("each n ( e )", "each w ( u ) each n ( s ) each n ( e )"),
                               ("each k ( e ) each n ( s )", "each w ( s ) each k ( e ) each n ( e ) each w ( u )")):
                rules = start + f" rule {first} o {{ {one} }} rule {second} o {{ {other} }}" + texts
                facts = facts_of(schema, rules, "".join(f"mode {mode} drops " for mode in "kmnpqw"))
                answer, paper = decide(facts)
                self.assertEqual(answer, "refused")
                self.assertIs(judge_pump(facts.grammar, facts.program, paper), True)
                self.assertEqual(paper[1], [("start", "a", ()), ("end", "a")])

    def test_children_before_the_live_lane_gets_something(self):
        schema = "root r\nr = r : a*, d, (b | (d, c))\na = a : empty\nb = b : chars\nc = c : empty\nd = d : empty\n"
        for name, row in (("b", ["d", "b"]), ("c", ["d", "d", "c"])):
            paper = self.check(schema, 'rule m r { each m ( ' + name + ' ) each m ( a ) } rule m a { "a" } rule m b { "b" } '
                                       'rule m c { "c" }', True)
            self.assertEqual([event[1] for event in paper[2] if event[0] == "start"], row)

    def test_the_least_row_that_gives_something(self):
        schema = ("root r\nr = r : a*, ((d, b) | (b, d, d) | (c, b, b) | (d, c))\na = a : empty\nb = b : d, d\nc = c : d\n"
                  "d = d : empty\n")
        for name, row in (("b", ["d", "b"]), ("c", ["d", "c"])):
            paper = self.check(schema, 'rule m r { each m ( ' + name + ' ) each m ( a ) } rule m a { "a" } rule m b { "b" } '
                                       'rule m c { "c" }', True)
            nested = [sum({"start": 1, "end": -1}[event[0]] for event in paper[2][:many]) for many in range(len(paper[2]))]
            self.assertEqual([event[1] for event, depth in zip(paper[2], nested) if event[0] == "start" and depth == 0], row)

    def test_missing_rules(self):
        self.assertEqual(self.check("root a\na = a : a*\n", "", False), (("a", (), ("m",), ()),))

    def test_random(self):
        chance = random.Random(53)
        seen = {"accepted": 0, "refused": 0}
        for _ in range(700):
            grammar = Grammar(random_schema(chance, small_content, is_schema))
            facts = Facts(grammar, random_program(chance, grammar))
            answer, paper = decide(facts)
            pumps = [has_pump(facts, state) for state in all_blocking(facts)]
            self.assertEqual(answer == "accepted", not any(pumps))
            seen[answer] += 1
            if answer == "accepted":
                self.assertIs(judge_table(facts, paper), True)
            else:
                self.check_pump(facts, paper)
        self.assertGreater(min(seen.values()), 100, seen)

    def check_pump(self, facts, paper):
        grammar, program = facts.grammar, facts.program
        kept = copy.deepcopy(paper)
        begin, again, rest = paper
        try:
            self.assertIs(judge_pump(grammar, program, paper), True)
        except TooMany:
            return
        self.assertEqual(paper, kept)
        # Each v more makes K greater by the same number.
        numbers = [certain(facts, begin + again * many, rest) for many in range(5)]
        steps = [after - before for before, after in zip(numbers, numbers[1:])]
        self.assertGreater(steps[0], 0)
        self.assertEqual(len(set(steps)), 1)
        self.assertIs(judge_pump(grammar, program, (begin + again, again, rest)), True)
        self.assertIs(judge_pump(grammar, program, (begin, again + again, rest)), True)
        # And so many are kept by the machine.
        for many in (1, 4):
            machine = Machine(grammar, program, facts)
            for event in begin + again * many:
                machine.event(event)
            self.assertGreaterEqual(machine.kept(), many)


class JudgeTableTest(unittest.TestCase):
    def test_spoiled_tables(self):
        chance = random.Random(56)
        spoiled = 0
        for _ in range(150):
            grammar = Grammar(random_schema(chance, small_content, is_schema))
            facts = Facts(grammar, random_program(chance, grammar))
            answer, paper = decide(facts)
            table = tuple(sorted(all_blocking(facts)))
            self.assertIs(judge_table(facts, table), answer == "accepted")
            if answer == "refused":
                self.assertIs(judge_table(facts, paper), False)
                continue
            others = [("a", (), ("m",), ()), ("root", (), (), ()), ("zz", (), ("m",), ()), ("a", ("m",), (), (("m", "m"),)),
                      (*table[0][:3], (("m", "m"), ("m", "m"))), (table[0][0], ("k", "m", "n"), (), ())]
            for row in self.spoiled(table, [other for other in others if other not in table]):
                self.assertIs(judge_table(facts, row), False, row)
                spoiled += 1
        self.assertGreater(spoiled, 1000)

    def spoiled(self, table, others):
        for index in range(len(table)):
            yield table[:index] + table[index + 1:]
            yield table[:index + 1] + table[index:]
            yield table + table[index:index + 1]
            state = table[index]
            for other in (list(state), state[:3], (*state, ()), (state[0], list(state[1]), *state[2:]), None, Same(), "abcd",
                          (*state[:3], list(state[3])), (Same(), *state[1:]), (*state[:3], Same()), (*state[:3], (Same(),)),
                          (*state[:3], ((Same(), "m"),)), (state[0], (Same(),), *state[2:]),
                          (["a"], *state[1:]), (state[0], ([],), *state[2:]), (*state[:2], ([],), state[3]), (*state[:2], "m", ()),
                          (*state[:2], [], state[3]), (*state[:3], ((["m"], "m"),)), (*state[:3], (("m",),)), (*state[:3], "mm")):
                yield table[:index] + (other,) + table[index + 1:]
        for one, other in itertools.combinations(range(len(table)), 2):
            row = list(table)
            row[one], row[other] = row[other], row[one]
            yield tuple(row)
        for other in others:
            yield tuple(sorted([*table, other]))
        yield list(table)
        yield {state: True for state in table}
        yield (table,)

    def test_values_of_other_kinds(self):
        facts = facts_of("root a\na = a : a*\n", "rule m a { each m ( a ) }")
        self.assertIs(judge_table(facts, (("a", (), ("m",), ()),)), True)
        for value in ODD_CONTENTS:
            self.assertIs(judge_table(facts, value), False)

    def test_more_states_than_are_looked_for(self):
        # A table may be judged that is greater than what is looked for.
        many = 3001
        types = {f"t{number}": ("t", (), ("type", f"t{number + 1}")) for number in range(many - 1)}
        types[f"t{many - 1}"] = ("t", (), ("chars",))
        rules = {("m", f"t{number}"): (("each", "m", (f"t{number + 1}",)),) for number in range(many - 1)}
        facts = Facts(Grammar({"root": "t0", "types": types}), {"start": "m", "modes": {"m": True}, "rules": rules})
        with self.assertRaises(TooMany):
            decide(facts)
        table = tuple(sorted((kind, (), ("m",), ()) for kind in types))
        self.assertIs(judge_table(facts, table), True)
        self.assertIs(judge_table(facts, table[1:]), False)


class JudgePumpTest(unittest.TestCase):
    SCHEMA = "root r\nr = r @x : a*, b*\na = a : empty\nb = b : chars\n"
    RULES = 'rule m r { each m ( b ) "-" each m ( a ) } rule m a { "a" } rule m b { "b" each m ( char ) }'

    def setUp(self):
        self.facts = facts_of(self.SCHEMA, self.RULES)

    def judge(self, *paper):
        return judge_pump(self.facts.grammar, self.facts.program, tuple(
            read_events(part) if isinstance(part, str) else part for part in paper))

    def test_papers(self):
        self.assertIs(self.judge("<r>", "<a/>", "<b/></r>"), True)
        self.assertIs(self.judge("<r>", "<a/><a/>", "<b/></r>"), True)
        self.assertIs(self.judge("<r><a/>", "<a/>", "<a/><b>x</b><b/></r>"), True)
        self.assertIs(self.judge('<r x="1">', "<a/>", "<b/></r>"), True)

    def test_what_is_no_pump(self):
        # K is no greater: no b comes, or only a b comes with v; but with an a in c as its first event.
        self.assertIs(self.judge("<r>", "<a/>", "</r>"), False)
        self.assertIs(self.judge("<r>", "<a/>", "<a/></r>"), False)
        self.assertIs(self.judge("<r><a/><b>", "x", "</b><b/></r>"), False)
        # The shape is another one.
        self.assertIs(self.judge("<r><a/>", "<b/>", "<b/></r>"), False)
        # v is nothing, or no whole row.
        self.assertIs(self.judge("<r>", "", "<b/></r>"), False)
        self.assertIs(self.judge("<r><a>", "</a><a>", "</a><b/></r>"), False)
        self.assertIs(self.judge("<r>", "<a>", "</a><b/></r>"), False)
        self.assertIs(self.judge("<r><a>", "</a>", "<b/></r>"), False)
        # u c or u v c is no valid document.
        self.assertIs(self.judge("<r><b/>", "<a/>", "<b/></r>"), False)
        self.assertIs(self.judge("<r>", "<a/>", "<b/>"), False)
        self.assertIs(self.judge("<r>", "<a/>", "<b/></r></r>"), False)
        self.assertIs(self.judge("<r>", "<a/>", "<c/></r>"), False)
        self.assertIs(self.judge("<r>", "<c/>", "<b/></r>"), False)
        self.assertIs(self.judge('<r y="1">', "<a/>", "<b/></r>"), False)
        self.assertIs(self.judge("", "<r><a/></r>", ""), False)
        self.assertIs(self.judge("", "<r><a/><b/></r>", "<r><a/><b/></r>"), False)
        self.assertIs(self.judge("<r><a/></r>", "<a/>", ""), False)

    def test_values_of_other_kinds(self):
        good = tuple(read_events(part) for part in ("<r>", "<a/>", "<b/></r>"))
        self.assertIs(self.judge(*good), True)
        grammar, program = self.facts.grammar, self.facts.program
        for value in ODD_CONTENTS + [list(good), good[:2], good + ([],), (good,), {0: good}, "abc"]:
            self.assertIs(judge_pump(grammar, program, value), False)
        for index in range(3):
            for value in ODD_CONTENTS + [tuple(good[index]), [good[index]], good[index] + [None], [Same()], [Same()] * 2,
                                         [list(event) for event in good[index]], [event[:1] for event in good[index]],
                                         [(*event, 1) for event in good[index]], "".join(event[0] for event in good[index])]:
                if value != [] or index == 1:
                    self.assertIs(judge_pump(grammar, program, good[:index] + (value,) + good[index + 1:]), False)

    def test_spoiled_papers(self):
        chance = random.Random(55)
        told = {True: 0, False: 0}
        for _ in range(300):
            grammar = Grammar(random_schema(chance, small_content, is_schema))
            facts = Facts(grammar, random_program(chance, grammar))
            answer, paper = decide(facts)
            if answer == "accepted" or sum(len(part) for part in paper) > 30:
                continue
            for part in range(3):
                for index in range(len(paper[part])):
                    event = paper[part][index]
                    for new in ([], [event, event], [("char", "a")], [event, ("char", "a")], [start_event(grammar, grammar.root)]):
                        row = paper[part][:index] + new + paper[part][index + 1:]
                        spoiled = paper[:part] + (row,) + paper[part + 1:]
                        try:
                            expected = self.takes(facts, *spoiled)
                        except TooMany:
                            continue
                        self.assertIs(judge_pump(grammar, facts.program, spoiled), expected)
                        told[expected] += 1
        self.assertGreater(min(told.values()), 50, told)

    def takes(self, facts, begin, again, rest):
        """What the judge must tell by the words of point [55]."""
        for document in (begin + rest, begin + again + rest):
            if validate(facts.grammar, document) != (-1, ""):
                return False
            machine = Machine(facts.grammar, facts.program)
            for event in document:
                machine.event(event)
        nested = [sum({"start": 1, "char": 0, "end": -1}[event[0]] for event in again[:many]) for many in range(len(again) + 1)]
        if not again or min(nested) < 0 or nested[-1] != 0:
            return False
        if Moment(facts, begin).shape != Moment(facts, begin + again).shape:
            return False
        return certain(facts, begin + again, rest) > certain(facts, begin, rest)

    def test_too_many(self):
        schema = "root a\na = a : (a | b)*\nb = b : empty\n"
        facts = facts_of(schema, 'rule m a { each m ( a ) each m ( a ) each m ( b ) } rule m b { "b" }')
        deep = [("start", "a", ())]
        child, end = [("start", "b", ()), ("end", "b")], ("end", "a")
        for depth, frames in ((9, False), (11, True)):
            paper = (deep * depth, child, child + [end] * depth)
            if frames:
                # More than 1000 frames.
                with self.assertRaises(TooMany):
                    judge_pump(facts.grammar, facts.program, paper)
                # What is not valid is not taken.
                self.assertIs(judge_pump(facts.grammar, facts.program, (paper[0], child, child + [end])), False)
                # Also if there are other faults than these.
                with self.assertRaises(TooMany):
                    judge_pump(facts.grammar, facts.program, (paper[0], [], paper[2]))
            else:
                self.assertIs(judge_pump(facts.grammar, facts.program, paper), True)
        # Only behind u and v.
        facts = facts_of(schema, 'rule m a { each m ( a ) each m ( a ) each m ( b ) } rule m b { "b" }')
        for depth, frames in ((1, 1), (8, 767), (9, 1535)):
            paper = (deep, child, deep * depth + child + [end] * (depth + 1))
            if frames > 1000:
                with self.assertRaises(TooMany):
                    judge_pump(facts.grammar, facts.program, paper)
            else:
                self.assertIs(judge_pump(facts.grammar, facts.program, paper), True)
        # More than 20000 events.
        facts = facts_of("root a\na = a : b*, c*\nb = b : empty\nc = c : empty\n",
                         'rule m a { each m ( c ) each m ( b ) } rule m b { "b" } rule m c { "c" }')
        begin, end = [("start", "a", ())], [("start", "c", ()), ("end", "c"), ("end", "a")]
        self.assertIs(judge_pump(facts.grammar, facts.program, (begin + child * 19998, child, end)), True)
        with self.assertRaises(TooMany):
            judge_pump(facts.grammar, facts.program, (begin + child * 19999, child, end))

    def test_deep_shapes(self):
        facts = facts_of("root a\na = a : a?, (b | c)*\nb = b : empty\nc = c : empty\n",
                         'rule m a { "x" each m ( c ) each m ( a , b ) } rule m b { "b" } rule m c { "c" }')
        begin, end = [("start", "a", ())] * 900, [("end", "a")] * 900
        child, other = [("start", "b", ()), ("end", "b")], [("start", "c", ()), ("end", "c")]
        self.assertIs(judge_pump(facts.grammar, facts.program, (begin, child + other, other + end)), False)
        self.assertIs(judge_pump(facts.grammar, facts.program, (begin + child, child, other + end)), True)

    def test_too_many_least_elements(self):
        # The paper's documents have least elements that are too long.
        great = "b0 = b : empty\n" + "".join(f"b{k + 1} = b : c{k}, b{k}\nc{k} = c : b{k}\n" for k in range(9))
        facts = facts_of("root r\nr = r : b9, a*, e?\na = a : empty\ne = e : empty\n" + great,
                         'rule m r { each m ( e ) each m ( a ) } rule m e { "e" } rule m a { "a" }')
        with self.assertRaises(TooMany):
            decide(facts)


def read_events(text):
    """The events of a part of a text."""
    names = []
    events = []
    at = 0
    while at < len(text):
        if text[at] != "<":
            events.append(("char", text[at]))
            at += 1
            continue
        end = text.index(">", at)
        if text[at + 1] == "/":
            events.append(("end", text[at + 2:end]))
        else:
            whole = text[at:end].rstrip("/")
            names = whole[1:].split(" ")
            events += read_text([ord(sign) for sign in whole + "/>"])[:1]
            if text[end - 1] == "/":
                events.append(("end", names[0]))
        at = end + 1
    return events


class StepTest(unittest.TestCase):
    def test_first_state_that_has_a_pump_is_shown(self):
        schema = "root a\na = a : b?, c*, d?\nb = b : c*, d?\nc = c : empty\nd = d : empty\n"
        facts = facts_of(schema, 'rule m a { each m ( b ) } rule m b { each m ( d ) each m ( c ) } rule m c { "c" } rule m d { "d" }')
        self.assertIsNone(has_pump(facts, first_blocking(facts)))
        inner = after_edge(facts, first_blocking(facts), (), (0, "b", 1))
        self.assertIsNotNone(has_pump(facts, inner))
        self.assertEqual(decide(facts)[0], "refused")


if __name__ == "__main__":
    unittest.main()
