"""[74] to [78]: elements that can be passed over, closed tables, insides with other rows, and what is given up."""

import copy
import random
import unittest

from hewstream.completions import start_event
from hewstream.errors import TooMany
from hewstream.facts import Facts
from hewstream.insides import is_valid_inside, least_inside, rows_of, wide_cases
from hewstream.schemas import Grammar, is_schema
from hewstream.skipping import MOST_STATES, decide_skip, judge_differ, judge_same
from program_oracle import STRINGS, all_documents, next_events, plain_meaning, random_program, some
from samples import ODD_CONTENTS, Same
from schema_oracle import random_schema, small_content
from shorthand import facts_of, inside_in, refused, signs
from hewstream.validator import Validator
from test_facts import grammar_from


def short_insides(facts, kind, most, width):
    """Valid insides of at most so many events, with wide cases and two signs; of each length from so many beginnings."""
    own = grammar_from(facts.grammar.schema(), kind)
    begun = Validator(own)
    begun.take(start_event(own, kind))
    rows = [([], begun)]
    for _ in range(most + 1):
        longer = []
        for events, at in rows[:width]:
            for event in next_events(own, at, lambda name: wide_cases(facts, name)):
                for sign in "ab" if event[0] == "char" else "a":
                    behind = at.copied()
                    behind.take(("char", sign) if event[0] == "char" else event)
                    if behind.is_complete():
                        yield events
                    else:
                        longer.append(([*events, ("char", sign) if event[0] == "char" else event], behind))
        rows = longer


class SkipCase(unittest.TestCase):
    def same(self, facts, kind="a", attributes=(), modes=("m",), table=None):
        answer, told = decide_skip(facts, kind, attributes, modes)
        self.assertEqual(answer, "same", told)
        self.assertIs(judge_same(facts, kind, attributes, modes, told), True)
        if table is not None:
            # The least closed table is told by the test: each key and each outcome of it is needed.
            self.assertIs(judge_same(facts, kind, attributes, modes, table), True)
            self.check_spoiled(facts, kind, attributes, modes, table)
        due = rows_of(facts, kind, attributes, modes, least_inside(facts.grammar, kind))
        for inside in some(short_insides(facts, kind, 7, 30), 60):
            self.assertEqual(rows_of(facts, kind, attributes, modes, inside), due)
            self.assertIs(judge_differ(facts, kind, attributes, modes, inside), False)
        return told

    def check_spoiled(self, facts, kind, attributes, modes, table):
        """No key and no outcome of the least table can be left out."""
        for key, outcomes in table.items():
            rest = {other: rows for other, rows in table.items() if other != key}
            self.assertIs(judge_same(facts, kind, attributes, modes, rest), False)
            for index in range(len(outcomes)):
                row = outcomes[:index] + outcomes[index + 1:]
                self.assertIs(judge_same(facts, kind, attributes, modes, {**table, key: row}), False)

    def differ(self, facts, kind="a", attributes=(), modes=("m",), inside=None):
        answer, told = decide_skip(facts, kind, attributes, modes)
        self.assertEqual(answer, "differ", told)
        self.assertIs(is_valid_inside(facts.grammar, kind, told), True)
        self.assertNotEqual(rows_of(facts, kind, attributes, modes, told),
                            rows_of(facts, kind, attributes, modes, least_inside(facts.grammar, kind)))
        self.assertIs(judge_differ(facts, kind, attributes, modes, told), True)
        self.assertIs(judge_same(facts, kind, attributes, modes, {}), False)
        if inside is not None:
            self.assertIs(judge_differ(facts, kind, attributes, modes, inside_in(inside)), True)
        return told


class DecideTest(SkipCase):
    def test_constant(self):
        self.assertEqual(MOST_STATES, 3000)

    def test_examples(self):
        self.same(facts_of("root a\na = a : chars\n", "rule m a { each d ( char ) }"), table={})
        facts = facts_of("root a\na = a : b\nb = b : chars\n", 'rule m a { each m ( b ) } rule m b { "x" }')
        # The x has the offset 1, the b ends anywhere behind it.
        self.same(facts, table={("b", 1, ("m",)): ((2, ((signs("x", 1),),)),)})

    def test_own_events(self):
        facts = facts_of("root a\na = a @x : (b | chars)*\nb = b : chars\n", 'rule m a { "x" make p { @ x } } rule n a { each n ( b ) }')
        self.same(facts, "a", (("x", "v"),), ("d", "m", "n"))
        self.same(facts, "b", (), ("m", "n"))

    def test_signs(self):
        self.differ(facts_of("root a\na = a : chars\n", "rule m a { each m ( char ) }"), inside="a")
        # A sign that must come can still be another one.
        facts = facts_of("root a\na = a : b\nb = b : chars\n", "rule m a { each m ( b ) } rule m b { each m ( char ) }")
        self.differ(facts, inside="<b>a</b>")
        facts = facts_of("root a\na = a : b, c\nb = b : chars\nc = c : empty\n",
                         'rule m a { each d ( b ) each m ( c ) } rule m c { "c" }')
        self.differ(facts, inside="<b>a</b><c/>")

    def test_offsets(self):
        # The c can stand at any place behind some b.
        schema = "root a\na = a : {}\nb = b : empty\nc = c : chars\n"
        rules = 'rule m a { each m ( c ) } rule m c { "c" }'
        self.differ(facts_of(schema.replace("{}", "b*, c"), rules), inside="<b/><c/>")
        self.same(facts_of(schema.replace("{}", "c, b*"), rules))
        self.differ(facts_of(schema.replace("{}", "(c | (b, c)), b*"), rules), inside="<b/><c/>")
        self.same(facts_of(schema.replace("{}", "b, c, b*"), rules), table={
            ("b", 1, ()): ((3, ()),), ("c", 3, ("m",)): ((4, ((signs("c", 3),),)),), ("b", 4, ()): ((4, ()),)})
        # An element that is not used makes offsets differ by what is in it.
        self.differ(facts_of(schema.replace("{}", "b, c, c"), rules), inside="<b/><c>a</c><c/>")

    def test_the_number_of_children(self):
        rules = 'rule m a { each m ( b ) } rule m b { "b" }'
        self.differ(facts_of("root a\na = a : b*\nb = b : empty\n", rules), inside="<b/>")
        self.differ(facts_of("root a\na = a : b+\nb = b : empty\n", rules), inside="<b/><b/>")
        self.same(facts_of("root a\na = a : b, b\nb = b : empty\n", rules))
        # Of what writes nothing there may be any number.
        self.same(facts_of("root a\na = a : b*\nb = b : (a | chars)*\n", "rule m a { each m ( b ) } rule m b { each n ( a ) }"))

    def test_values(self):
        schema = "root a\na = a : b\nb = b @x : empty\n"
        self.differ(facts_of(schema, "rule m a { each m ( b ) } rule m b { @ x }"))
        self.differ(facts_of(schema.replace("@x", "@x!"), "rule m a { each m ( b ) } rule m b { @ x }"))
        self.differ(facts_of(schema, 'rule m a { each m ( b ) } rule m b { make p ( q = @ x ) { } }'))
        self.differ(facts_of(schema, 'rule m a { each m ( b ) } rule m b { if @ x = "q" { "1" } }'), inside='<b x="q"/>')
        self.same(facts_of(schema, 'rule m a { each m ( b ) } rule m b { if @ x = "q" { "1" } else { "1" } }'))
        self.same(facts_of(schema, 'rule m a { each m ( b ) } rule n b { @ x }'))

    def test_two_strings_are_needed(self):
        # Of strings that are not compared one alone shows nothing: that of the due row is the empty one.
        schema = "root a\na = a : b\nb = b @x! : empty\n"
        rules = 'rule m a { each m ( b ) } rule m b { if @ x = "" { "a" } else { if @ x = "q" { "a" } else { @ x } } }'
        told = self.differ(facts_of(schema, rules))
        self.assertIs(judge_differ(facts_of(schema, rules), "a", (), ("m",), inside_in('<b x="aa"/>')), True)
        self.assertEqual(told[0][0], "start")
        rules = rules.replace('{ "a" } else { @ x }', '{ "aa" } else { @ x }')
        self.differ(facts_of(schema, rules))

    def test_no_modes(self):
        facts = facts_of("root a\na = a : (b | chars)*\nb = b @x : a?\n", "rule m a { each m ( char , b ) } rule m b { @ x }")
        self.same(facts, modes=(), table={("a", 1, ()): ((1, ()),), ("b", 1, ()): ((1, ()),)})
        self.same(facts, "b", (("x", "1"),), ())
        self.differ(facts)

    def test_modes(self):
        facts = facts_of("root a\na = a : b*\nb = b : c\nc = c : empty\n", 'rule m a { each m ( b ) } rule n a { each n ( b ) } rule m b { each m ( c ) } '
                                                                           'rule m c { "c" } rule n b { each n ( c ) }')
        self.same(facts, modes=("n",))
        self.same(facts, modes=("d", "k", "n"))
        self.differ(facts, modes=("m",), inside="<b><c/></b>")
        self.differ(facts, modes=("m", "n"), inside="<b><c/></b>")
        self.same(facts, "b", (), ("m", "n"), {("c", 1, ("m", "n")): ((2, ((signs("c", 1),), ())),)})

    def test_lanes_of_one_rule(self):
        facts = facts_of("root a\na = a : b, c\nb = b : empty\nc = c : empty\n",
                         'rule m a { each m ( c ) "-" each m ( b , c ) each n ( b ) } rule m b { "b" } rule m c { "c" } rule n b { "n" }')
        self.same(facts, table={("b", 1, ("m", "n")): ((3, ((signs("b", 1),), (signs("n", 1),))),),
                                ("c", 3, ("m",)): ((4, ((signs("c", 3),),)),)})

    def test_parts_of_other_due_rows_fit_on_the_way(self):
        # The b's row is a part of the due row of n; that of m is empty in the end.
        facts = facts_of("root a\na = a : b?\nb = b : empty\n", 'rule m a { each m ( b ) } rule n a { "x" } rule m b { "x" }')
        self.differ(facts, modes=("m", "n"), inside="<b/>")

    def test_recursive(self):
        facts = facts_of("root a\na = a : a?, b\nb = b : empty\n", 'rule m a { "x" each n ( a , b ) } rule n a { each n ( a , b ) }')
        self.same(facts)
        facts = facts_of("root a\na = a : a?, b\nb = b : empty\n", 'rule m a { each m ( a , b ) } rule m b { "b" }')
        self.differ(facts, inside="<a><b/></a><b/>")

    def test_insides_are_not_bounded(self):
        # The least inside is short; one with a c, which is needed for another row, has more than 1000 events.
        schema = "root a\na = a : b | c\nb = b : empty\n" + "".join(
            f"{one} = {one} : {two}, {two}\n" for one, two in ("cd", "de", "ef", "fg", "gh", "hi", "ij", "jk", "kl")) + "l = l : empty\n"
        told = self.differ(facts_of(schema, 'rule m a { each m ( c ) } rule m c { "c" }'))
        self.assertEqual(len(told), 2046)
        facts = facts_of(schema, 'rule m a { each m ( b ) } rule m b { "b" } rule m c { "c" }')
        self.assertEqual(len(self.differ(facts)), 2046)
        self.same(facts_of(schema, 'rule m a { each n ( b , c ) "x" }'))
        self.assertEqual(decide_skip(facts, "e", (), ("m",))[0], "same")
        for kind in "dc":
            refused(self, TooMany, decide_skip, facts, kind, (), ("m",))


class RandomTest(SkipCase):
    def test_random(self):
        chance = random.Random(77)
        seen = {"same": 0, "differ": 0, "rows": 0, "keys": 0, "many": 1}
        for _ in range(700):
            grammar = Grammar(random_schema(chance, small_content, is_schema))
            try:
                facts = Facts(grammar, random_program(chance, grammar))
            except TooMany:
                continue
            kind = chance.choice(grammar.types())
            attributes = tuple((name, chance.choice(STRINGS)) for name, needed in grammar.attributes_of(kind)
                               if needed or chance.random() < 0.5)
            modes = tuple(mode for mode in sorted(facts.program["modes"]) if chance.random() < 0.7)
            answer, told = decide_skip(facts, kind, attributes, modes)
            seen[answer] += 1
            if answer == "same":
                kept = copy.deepcopy(told)
                self.same(facts, kind, attributes, modes)
                self.check_outcomes(facts, told)
                self.assertEqual(told, kept)
                seen["rows"] += any(row for rows in told.values() for _, told_rows in rows for row in told_rows)
                seen["keys"] += len(told) > 1
            elif answer == "differ":
                self.differ(facts, kind, attributes, modes)
        self.assertGreater(min(seen["same"], seen["differ"], seen["keys"]), 60, seen)
        self.assertGreater(seen["rows"], 5, seen)

    def check_outcomes(self, facts, table):
        """What small elements put out is in the table."""
        deep = max([offset for outcomes in table.values() for _, rows in outcomes for row in rows for _, offset in row],
                   default=None)
        for (kind, offset, modes), outcomes in table.items():
            self.assertEqual(list(outcomes), sorted(outcomes, key=repr))
            own = grammar_from(facts.grammar.schema(), kind)
            for document in some(all_documents(own, lambda name: wide_cases(facts, name), 6, 10), 10):
                rows = tuple(tuple((event, place + offset) for event, place in plain_meaning(
                    own, {**facts.program, "start": mode}, document)) for mode in modes)
                self.assertIn(rows, [told for _, told in outcomes])
                if deep is not None and offset + len(document) <= deep:
                    self.assertIn((offset + len(document), rows), outcomes)


class JudgeTest(unittest.TestCase):
    FACTS = facts_of("root a\na = a : b, c?\nb = b : chars\nc = c @x : b?\n", 'rule m a { each m ( b ) each d ( c ) } rule m b { "b" } rule m c { @ x }')

    def setUp(self):
        self.table = {("b", 1, ("m",)): ((2, ((signs("b", 1),),)),), ("c", 2, ("d",)): ((2, ((),)),), ("b", 2, ()): ((2, ()),)}

    def judge(self, table):
        kept = repr(table)
        told = judge_same(self.FACTS, "a", (), ("m",), table)
        self.assertEqual(repr(table), kept)
        return told

    def test_table(self):
        self.assertEqual(decide_skip(self.FACTS, "a", (), ("m",))[0], "same")
        self.assertIs(self.judge(self.table), True)
        self.assertIs(self.judge(dict(reversed(self.table.items()))), True)

    def test_left_out_and_doubled(self):
        for key, rows in self.table.items():
            self.assertIs(self.judge({other: row for other, row in self.table.items() if other != key}), False)
            for row in ((), rows + rows, list(rows), rows[0], None, Same(), (Same(),), "ab", (None,), (rows[0][:1],), (rows[0] + (1,),),
                        ((rows[0][1], rows[0][0]),), ((True, rows[0][1]),), (("2", rows[0][1]),), ((9, rows[0][1]),), ((-1, rows[0][1]),),
                        ((2, list(rows[0][1])),), ((2, (*rows[0][1], ())),), ((2, Same()),), ((Same(), rows[0][1]),), ((2, "m"),)):
                self.assertIs(self.judge({**self.table, key: row}), False, row)

    def test_rows_of_other_kinds(self):
        key = ("b", 1, ("m",))
        for row in ([signs("b", 1)], (list(signs("b", 1)),), (("signs", "b"),), ((("signs", ""), 1),), ((("signs", "b"), True),),
                    ((("signs", "b"), -1),), ((("signs", "b"), 3),), ((("sign", "b"), 1),), ((["signs", "b"], 1),), ((Same(), 1),),
                    ((("signs", "b"), Same()),), Same(), None, "b", (signs("b", 1), None), (("signs", "b", 1),)):
            self.assertIs(self.judge({**self.table, key: ((2, (row,)),)}), False, row)

    def test_keys_of_other_kinds(self):
        for key in (None, "b", 1, (), ("b", 1), ("b", 1, ("m",), ()), ("z", 1, ()), (1, 1, ()), ("b", "1", ()), ("b", -1, ()), ("b", 3, ()),
                    ("b", None, ()), ("b", 1, "m"), ("b", 1, ("z",)), ("b", 1, ("n", "m")), ("b", 1, ("m", "m")), ("b", 1, (1,)),
                    ("char", 1, ()), ("b", 1, None), b"b"):
            self.assertIs(self.judge({**self.table, key: ()}), False, key)
            self.assertIs(self.judge({**self.table, key: ((2, ()),)}), False, key)
            for many in (1, 2):
                self.assertIs(self.judge({**self.table, key: ((2, ((),) * many),)}), False, key)

    def test_values_of_other_kinds(self):
        for value in [*ODD_CONTENTS, {}, list(self.table.items()), tuple(self.table.items()), [self.table]]:
            self.assertIs(self.judge(value), False)

    def test_larger_tables(self):
        # Further keys, with what comes about from them.
        for key, rows in ((("b", 1, ()), ((2, ()),)), (("b", 2, ("d",)), ((2, ((),)),)), (("c", 2, ()), ((2, ()),)),
                          (("b", 0, ()), ((2, ()),)), (("c", 2, ("d", "n")), ((2, ((), ())),))):
            self.assertIs(self.judge({**self.table, key: rows}), True, key)
        # Ones that are not closed, or whose rows do not fit.
        for key, rows in ((("b", 1, ()), ()), (("b", 1, ("d",)), ((1, ((),)),)), (("b", 2, ("m",)), ((2, ((signs("b", 2),),)),)),
                          (("c", 2, ("m",)), ((2, ((),)),)), (("a", 1, ("m",)), ((2, ((signs("b", 2),),)),))):
            self.assertIs(self.judge({**self.table, key: rows}), False, key)
        # A further outcome changes what comes about.
        self.assertIs(self.judge({**self.table, ("b", 1, ("m",)): ((2, ((),)), (2, ((signs("b", 1),),)))}), False)
        self.assertIs(self.judge({**self.table, ("b", 2, ()): ((1, ()), (2, ()))}), True)

    def test_papers_of_others(self):
        self.assertIs(judge_same(self.FACTS, "a", (), ("n",), self.table), False)
        self.assertIs(judge_same(self.FACTS, "a", (), (), self.table), False)
        self.assertIs(judge_same(self.FACTS, "b", (), ("m",), {}), True)
        self.assertIs(judge_same(self.FACTS, "b", (), ("m",), self.table), False)

    def test_insides(self):
        facts = facts_of("root a\na = a : b*\nb = b : chars\n", "rule m a { each m ( b ) } rule m b { each m ( char ) }")

        def judge(value, modes=("m",)):
            return judge_differ(facts, "a", (), modes, value)

        self.assertIs(judge(inside_in("<b>x</b>")), True)
        self.assertIs(judge(inside_in("<b/><b>y</b>")), True)
        self.assertIs(judge(inside_in("<b/>")), False)
        self.assertIs(judge([]), False)
        self.assertIs(judge(inside_in("<b>x</b>"), ()), False)
        self.assertIs(judge(inside_in("<b>x</b>"), ("n",)), False)
        good = inside_in("<b>x</b>")
        for value in [good[:-1], good[1:], good + good[:1], [*good, ("end", "a")], [*good, ("char", "x")], tuple(good), [good], [*good, None],
                      [Same()] * 3, [good[0], Same(), good[2]], [good[0], ("char", "xy"), good[2]], [good[0], ["char", "x"], good[2]],
                      [("start", "b", []), *good[1:]], [("start", "b"), *good[1:]], *ODD_CONTENTS]:
            self.assertIs(judge(value), False)


def many_states(many):
    """An element for which so many states are met, from 2900 to 3018: 2 of its own, the others of the cases of its children."""
    parts = {"b": "pqrst", "c": "pqrst", "d": "pqrst"}
    rules = [f"rule k {kind} {{ make z ( a = {' + '.join('@ ' + name for name in names)} ) {{ }} }}" for kind, names in parts.items()]
    # An attribute that is compared with so many strings has 4 choices more.
    for kind, strings in (("e", 96), ("f", many - 2 - 1024 - 1024 - 768 - 100 - 4)):
        for mode, numbers in (("m", range(min(strings, 50))), ("n", range(50, strings))):
            rules.append(f"rule {mode} {kind} {{ " + " ".join(f'if @ x = "s{number}" {{ }}' for number in numbers) + " }")
    schema = "root a\na = a : (b | c | d | e | f)?\ne = e @x : empty\nf = f @x : empty\n"
    for kind, names in parts.items():
        needed = "!" if kind == "d" else ""
        schema += f"{kind} = {kind} " + " ".join("@" + name for name in names[:-1]) + f" @{names[-1]}{needed} : empty\n"
    return facts_of(schema, " ".join(rules))


class LimitsTest(unittest.TestCase):
    TABLE = {(kind, 1, ()): ((1, ()),) for kind in "bcdef"}

    def test_states(self):
        for many, expected in ((2950, "same"), (2999, "same"), (3000, "same"), (3001, "many"), (3010, "many")):
            facts = many_states(many)
            answer, table = decide_skip(facts, "a", (), ("m",))
            self.assertEqual(answer, expected)
            self.assertIs(judge_same(facts, "a", (), ("m",), table), expected == "same")
            self.assertIs(judge_same(facts, "a", (), ("m",), self.TABLE), expected == "same")

    def test_states_of_larger_tables(self):
        # A further key has 2 states.
        more = {**self.TABLE, ("a", 1, ("n",)): ((1, ((),)),)}
        for many, expected in ((2998, True), (2999, False), (3000, False)):
            self.assertIs(judge_same(many_states(many), "a", (), ("m",), more), expected)

    def test_what_is_found_before(self):
        facts = many_states(3001)
        rules = {**facts.program["rules"], ("m", "a"): (("each", "n", ("b",)),), ("n", "b"): (("text", "b"),)}
        facts = Facts(facts.grammar, {**facts.program, "rules": rules})
        answer, inside = decide_skip(facts, "a", (), ("m",))
        self.assertIn(answer, ("differ", "many"))
        self.assertIs(judge_same(facts, "a", (), ("m",), self.TABLE), False)
        if answer == "differ":
            self.assertIs(judge_differ(facts, "a", (), ("m",), inside), True)

    def test_very_many_cases(self):
        # Of 65536 cases none but the first ones are looked at.
        names = "stuvwxyz"
        facts = facts_of("root a\na = a : b?\nb = b " + " ".join("@" + name for name in names) + " : empty\n",
                         "rule k b { make z ( a = " + " + ".join("@ " + name for name in names) + " ) { } }")
        self.assertEqual(decide_skip(facts, "a", (), ("m",)), ("many", ()))
        self.assertIs(judge_same(facts, "a", (), ("m",), {("b", 1, ()): ((1, ()),)}), False)

    def test_least_insides(self):
        schema = "root a\na = a : {}\nb = b : " + ", ".join(["c"] * 10) + "\nc = c : " + ", ".join(["d"] * 10) + "\nd = d : empty\n"
        for content, error in (("b, b, b, b, d", False), ("b, b, b, b, b", True)):
            facts = facts_of(schema.replace("{}", content), "")
            for modes in ((), ("m",)):
                if error:
                    refused(self, TooMany, decide_skip, facts, "a", (), modes)
                else:
                    self.assertEqual(decide_skip(facts, "a", (), modes)[0], "same")


if __name__ == "__main__":
    unittest.main()
