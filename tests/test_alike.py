"""[69] to [73]: programs that use each child once, meetings, and documents on which programs differ."""

import random
import unittest

from hewstream.alike import compare, judge_difference, judge_meetings, uses_once
from hewstream.errors import NotValid, TooMany
from hewstream.facts import Facts
from hewstream.schemas import Grammar, is_schema
from hewstream.validator import validate
from program_oracle import STRINGS, plain_meaning, random_document, random_program
from samples import ODD_CONTENTS, Same
from schema_oracle import random_schema, small_content
from shorthand import events_in, facts_of, refused

SCHEMA = "root a\na = a @x @y : (b | c | chars)*\nb = b @x : (b | chars)*\nc = c : empty\n"


class UsesTest(unittest.TestCase):
    def check(self, rules, expected, schema=SCHEMA):
        self.assertIs(uses_once(facts_of(schema, rules)), expected)

    def test_uses(self):
        self.check("", True)
        self.check("rule m a { each m ( b ) each m ( c , char ) }", True)
        self.check("rule m a { each m ( b ) each m ( c , b ) }", False)
        self.check("rule m a { make p { each m ( b ) } each n ( b ) }", False)
        # By one symbol, a sign; by symbols that cannot come in the content.
        self.check("rule m a { each d ( b , char ) each d ( c , char ) }", False)
        self.check("rule m c { each m ( a ) each m ( a ) }", False)
        # By one mode, also if no element is used by it.
        self.check("rule n b { each m ( b ) each m ( b ) }", False)

    def test_cases(self):
        self.check('rule m a { if @ x { each m ( b ) } each m ( b ) }', False)
        self.check('rule m a { if @ x { each m ( b ) } else { each m ( b ) } }', True)
        self.check('rule m a { if @ x = "1" { each m ( b ) } if @ x = "2" { each m ( b ) } }', True)
        self.check('rule m a { if @ x = "1" { each m ( b ) } if @ x { each m ( b ) } }', False)
        self.check('rule m a { if @ x = "1" { each m ( b ) } if @ y { each m ( b ) } }', False)

    def test_not_valid(self):
        once, twice = facts_of(SCHEMA, ""), facts_of(SCHEMA, "rule n c { each m ( b ) each n ( b ) }")
        for pair in ((once, twice), (twice, once), (twice, twice)):
            refused(self, NotValid, compare, *pair)
            for value in (None, (), (("a", "m", "m"),)):
                refused(self, NotValid, judge_meetings, *pair, value)
        # Differences are judged for all programs.
        self.assertIs(judge_difference(once, twice, events_in("<a/>")), False)


class CompareCase(unittest.TestCase):
    def alike(self, first, second, expected=None, schema=SCHEMA):
        facts, other = facts_of(schema, first), facts_of(schema, second)
        for one, two in ((facts, other), (other, facts)):
            answer, meetings = compare(one, two)
            self.assertEqual(answer, "alike", meetings)
            self.assertIs(judge_meetings(one, two, meetings), True)
            self.check_meetings(one, two, meetings)
        if expected is not None:
            self.assertEqual(compare(facts, other)[1], expected)

    def check_meetings(self, facts, other, meetings):
        """Just those that come about, in order."""
        self.assertEqual(meetings, tuple(sorted(set(meetings))))
        for index, meeting in enumerate(meetings):
            self.assertIs(judge_meetings(facts, other, meetings[:index] + meetings[index + 1:]), False)
            self.assertIs(judge_meetings(facts, other, meetings[:index + 1] + meetings[index:]), False)

    def differ(self, first, second, schema=SCHEMA):
        facts, other = facts_of(schema, first), facts_of(schema, second)
        for one, two in ((facts, other), (other, facts)):
            answer, document = compare(one, two)
            self.assertEqual(answer, "differ", document)
            self.check_document(one, two, document)
            root = (one.grammar.root, one.program["start"], two.program["start"])
            self.assertIs(judge_meetings(one, two, (root,)) and len(document) > 2, False)

    def check_document(self, facts, other, document):
        self.assertEqual(validate(facts.grammar, document), (-1, ""))
        self.assertNotEqual(plain_meaning(facts.grammar, facts.program, document),
                            plain_meaning(other.grammar, other.program, document))
        self.assertIs(judge_difference(facts, other, document), True)


class FormsTest(CompareCase):
    def test_own_events(self):
        self.alike('rule m a { "x" "y" }', 'rule m a { "x" "y" }', (("a", "m", "m"),))
        self.differ('rule m a { "x" "y" }', 'rule m a { "xy" }')
        self.differ('rule m a { "x" "y" }', 'rule m a { "y" "x" }')
        self.differ('rule m a { "x" }', 'rule m a { "x" "x" }')
        self.differ('rule m a { "x" }', "")
        self.alike('rule m a { "" make p { "" } }', "rule m a { make p { } }")
        self.differ("rule m a { make p { } }", "rule m a { make q { } }")
        self.differ('rule m a { make p { "x" } }', 'rule m a { make p { } "x" }')

    def test_values(self):
        self.alike("rule m a { @ x }", "rule m a { @ x }")
        self.differ("rule m a { @ x }", "rule m a { @ y }")
        self.differ("rule m a { @ x }", "")
        self.differ("rule m a { @ x @ y }", "rule m a { @ y @ x }")
        self.differ('rule m a { @ x }', 'rule m a { "a" }')

    def test_absent_compared_and_empty(self):
        self.alike('rule m a { @ x }', 'rule m a { if @ x { @ x } }')
        self.alike('rule m a { @ x }', 'rule m a { if @ x = "" { } else { @ x } }')
        self.alike('rule m a { if @ x = "1" { "1" } else { @ x } }', "rule m a { @ x }")
        self.differ('rule m a { if @ x = "1" { "2" } else { @ x } }', "rule m a { @ x }")
        self.differ('rule m a { if @ x = "" { "2" } else { @ x } }', "rule m a { @ x }")
        self.differ('rule m a { if @ x { @ x } else { "-" } }', "rule m a { @ x }")
        self.differ('rule m a { if @ x { "1" } }', 'rule m a { if @ x = "" { } else { if @ x { "1" } } }')
        self.alike('rule m a { if @ x = "1" { if @ y { "p" } } }', 'rule m a { if @ y { if @ x = "1" { "p" } } }')

    def test_values_in_attributes_of_makes(self):
        def make(parts):
            return "rule m a { make p ( q = " + parts + ") { } }"

        self.alike(make('"a" + "b" + @ x'), make('"ab" + @ x'))
        self.alike(make('"" + @ x + ""'), make("@ x"))
        self.differ(make('"a" + @ x'), make('@ x + "a"'))
        self.differ(make('"a"'), make("@ x"))
        self.differ(make("@ x"), make("@ y"))
        self.differ(make("@ x + @ y"), make("@ y + @ x"))
        self.differ(make("@ x + @ x"), make("@ x"))
        self.differ(make('"a" + @ x + "b"'), make('"ab" + @ x'))
        self.differ(make("@ x"), 'rule m a { make q ( q = @ x ) { } }')
        self.differ(make("@ x"), 'rule m a { make p ( r = @ x ) { } }')
        self.differ(make("@ x"), 'rule m a { make p { } }')
        # Such an attribute matters: absent it is as good as empty.
        self.alike('rule m a { if @ x { make p ( q = @ x ) { } } else { make p ( q = "" ) { } } }', make("@ x"))
        self.differ('rule m a { if @ x = "1" { make p ( q = "2" ) { } } else { make p ( q = @ x ) { } } }', make("@ x"))
        self.alike('rule m a { if @ x = "1" { make p ( q = "01" ) { } } else { make p ( q = "0" + @ x ) { } } }',
                   make('"0" + @ x'))

    def test_strings_of_both_programs(self):
        self.alike('rule m a { if @ x = "1" { "p" } if @ x = "2" { "q" } }',
                   'rule m a { if @ x = "2" { "q" } else { if @ x = "1" { "p" } } }')
        self.differ('rule m a { if @ x = "1" { "p" } }', 'rule m a { if @ x = "2" { "p" } }')
        self.differ('rule m a { if @ x = "a" { "p" } }', 'rule m a { if @ x = "aa" { "p" } }')

    def test_a_needed_attribute_is_not_absent(self):
        schema = SCHEMA.replace("@x @y", "@x! @y")
        self.alike('rule m a { if @ x { "1" } else { "2" } }', 'rule m a { "1" }', None, schema)
        self.differ('rule m a { if @ x { "1" } else { "2" } }', 'rule m a { "1" }')

    def test_words_that_could_be_mixed_up(self):
        self.differ('rule m a { make p ( q = "a" + @ x + "a" + @ y ) { } }', 'rule m a { make p ( q = "a" + @ y + "a" + @ x ) { } }')
        self.differ('rule m a { make p ( q = @ x + @ y + @ x ) { } }', 'rule m a { make p ( q = @ x + @ x + @ y ) { } }')
        self.differ('rule m a { make p ( q = @ x + "aa" ) { } }', 'rule m a { make p ( q = "aa" + @ x ) { } }')


class LanesTest(CompareCase):
    def test_lanes_behind_own_events(self):
        self.differ('rule m a { "x" each m ( char ) }', 'rule m a { each m ( char ) "x" }')
        self.alike('rule m a { "x" each d ( char ) }', 'rule m a { each d ( char ) "x" }')
        self.alike('rule m a { "x" each m ( b ) }', 'rule m a { each m ( b ) "x" }', (("a", "m", "m"),))
        self.differ('rule m a { "x" each m ( b ) } rule m b { "b" }', 'rule m a { each m ( b ) "x" } rule m b { "b" }')
        # What gives nothing need not be taken.
        self.alike('rule m a { "x" each m ( b ) each d ( char ) }', 'rule m a { "x" }', (("a", "m", "m"),))
        # A symbol that cannot come is of no account.
        self.alike('rule m a { each m ( a , char ) }', 'rule m a { each m ( char ) each m ( a ) "" }', (("a", "m", "m"),))

    def test_one_program_only(self):
        self.differ("rule m a { each m ( char ) }", "")
        self.differ('rule m a { each m ( b ) } rule m b { "b" }', 'rule m b { "b" }')
        self.differ('rule m a { each m ( b ) } rule m b { each m ( char ) }', "")

    def test_signs(self):
        self.alike("rule m a { each m ( char ) }", "rule m a { each n ( char ) }")
        self.differ("rule m a { each m ( char ) }", "rule m a { each d ( char ) }")
        self.alike("rule m a { each k ( char ) }", "rule m a { each d ( char ) }")

    def test_meetings_come_about(self):
        rules = 'rule m b { "b" each n ( b ) } rule n b { "c" } rule k b { "b" each d ( b ) } rule d b { "c" }'
        self.alike("rule m a { each m ( b ) } " + rules, "rule m a { each k ( b ) } " + rules,
                   (("a", "m", "m"), ("b", "m", "k"), ("b", "n", "d")))
        self.differ("rule m a { each m ( b ) } " + rules, "rule m a { each n ( b ) } " + rules)
        # Also where neither gives anything: the elements are used where the other program uses them.
        self.alike("rule m a { each m ( b ) each n ( c ) }", "rule m a { each d ( b , c ) }",
                   (("a", "m", "m"), ("b", "m", "d"), ("c", "n", "d")))

    def test_deep_differences(self):
        self.differ('rule m a { each m ( b ) } rule m b { each n ( b ) } rule n b { each k ( b ) } rule k b { "x" }',
                    'rule m a { each m ( b ) } rule m b { each n ( b ) } rule n b { each k ( b ) } rule k b { "y" }')
        self.differ('rule m a { each m ( b ) } rule m b { if @ x = "1" { each n ( b ) } else { each m ( b ) } } rule n b { "x" }',
                    'rule m a { each m ( b ) } rule m b { if @ x = "1" { each n ( b ) } else { each m ( b ) } } rule n b { @ x }')

    def test_orders(self):
        both = ' rule m b { "b" } rule m c { "c" }'
        self.differ("rule m a { each m ( b ) each m ( c ) }" + both, "rule m a { each m ( b , c ) }" + both)
        self.differ("rule m a { each m ( b ) each m ( c ) }" + both, "rule m a { each m ( c ) each m ( b ) }" + both)
        self.differ("rule m a { each m ( b ) each m ( char ) }" + both, "rule m a { each m ( b , char ) }" + both)
        # One of both gives nothing.
        self.alike('rule m a { each m ( b ) each m ( c ) } rule m b { "b" }', 'rule m a { each m ( b , c ) } rule m b { "b" }')
        # An own event between keeps them apart.
        self.alike('rule m a { each m ( b ) "-" each m ( c ) }' + both, 'rule m a { each m ( b ) "-" each m ( c ) }' + both)

    def test_orders_with_other_modes(self):
        # The modes of the one program give nothing in the other one.
        one = 'rule m a { each m ( b ) each m ( c ) } rule m b { "b" } rule m c { "c" }'
        self.differ(one, 'rule m a { each k ( b , c ) } rule k b { "b" } rule k c { "c" }')
        self.differ(one, 'rule m a { each k ( c ) each d ( b ) } rule d b { "b" } rule k c { "c" }')
        self.differ('rule m a { each m ( b ) "-" } rule m b { "b" }', 'rule m a { "-" each k ( b ) } rule k b { "b" }')
        self.differ('rule m a { each m ( b ) "-" } rule m b { "b" }', 'rule m a { "-" each k ( b ) }')
        self.alike(one, 'rule m a { each k ( b ) each d ( c ) } rule k b { "b" } rule d c { "c" }', (("a", "m", "m"), ("b", "m", "k"), ("c", "m", "d")))

    def test_orders_that_cannot_come(self):
        # The example: no b can come before an a.
        schema = "root r\nr = r : {}\na = a : empty\nb = b : empty\n"
        one, other = [body + ' rule m a { "a" } rule m b { "b" }' for body in (
            "rule m r { each m ( a ) each m ( b ) }", "rule m r { each m ( a , b ) }")]
        back = 'rule m r { each m ( b ) each m ( a ) } rule m a { "a" } rule m b { "b" }'
        for content, alike, reverse in (("a*, b*", True, False), ("a | b", True, True), ("(a | b)*", False, False),
                                        ("b, a", False, True), ("a, b, a?", False, False), ("(a, b)*", False, False),
                                        ("a+ | b+", True, True), ("b?, a?", False, True)):
            for rules, expected in ((other, alike), (back, reverse if content != "b?, a?" else False)):
                text = schema.replace("{}", content)
                if content in ("b, a", "b?, a?") and rules == back:
                    # Of one lane and of b ahead of a the first is the other way round.
                    self.differ(one, rules, text)
                    self.alike(other, rules, None, text)
                elif expected:
                    self.alike(one, rules, None, text)
                else:
                    self.differ(one, rules, text)


class JudgeTest(unittest.TestCase):
    RULES = 'rule m b { "b" each n ( b ) } rule n b { "c" } rule k b { "b" each d ( b ) } rule d b { "c" } rule m c { "!" } '

    def setUp(self):
        self.facts = facts_of(SCHEMA, "rule m a { each m ( b ) } " + self.RULES)
        self.other = facts_of(SCHEMA, "rule m a { each k ( b ) } " + self.RULES)
        self.meetings = compare(self.facts, self.other)[1]

    def judge(self, value):
        return judge_meetings(self.facts, self.other, value)

    def test_meetings(self):
        self.assertEqual(self.meetings, (("a", "m", "m"), ("b", "m", "k"), ("b", "n", "d")))
        self.assertIs(self.judge(self.meetings), True)

    def test_others(self):
        first, second, third = self.meetings
        for value in ((first, second), (first, third), (second, third), (first,), (), (second, first, third), (first, third, second),
                      (first, first, second, third), (first, second, third, third), self.meetings[::-1]):
            self.assertIs(self.judge(value), False)
        # Further ones that are right.
        for more in (("b", "d", "n"), ("c", "m", "m"), ("c", "d", "k"), ("b", "n", "n"), ("b", "d", "d")):
            self.assertIs(self.judge(tuple(sorted([*self.meetings, more]))), True, more)
        # Ones that are right if theirs are there.
        self.assertIs(self.judge(tuple(sorted([*self.meetings, ("b", "m", "m")]))), False)
        self.assertIs(self.judge(tuple(sorted([*self.meetings, ("b", "m", "m"), ("b", "n", "n")]))), True)
        # Ones that are not right, or none.
        for more in (("b", "m", "n"), ("b", "n", "m"), ("c", "m", "n"), ("a", "m", "d"), ("z", "m", "m"), ("b", "z", "m"), ("b", "m", "z"),
                     ("char", "m", "m")):
            self.assertIs(self.judge(tuple(sorted([*self.meetings, more]))), False, more)

    def test_values_of_other_kinds(self):
        first, second, third = self.meetings
        for value in [*ODD_CONTENTS, list(self.meetings), (list(first), second, third), (first, second, third, Same()), ("abc",),
                      (first[:2], second, third), (first + ("m",), second, third), (first, (Same(), "m", "k"), third),
                      (first, ("b", Same(), "k"), third), (first, ("b", "m", Same()), third), (first, second, ("b", "n", 1)),
                      {meeting: 1 for meeting in self.meetings}]:
            self.assertIs(self.judge(value), False)

    def test_documents(self):
        one = facts_of(SCHEMA, 'rule m a { if @ x = "1" { "x" } }')
        two = facts_of(SCHEMA, 'rule m a { if @ x = "1" { "y" } }')
        good = events_in('<a x="1"/>')
        self.assertIs(judge_difference(one, two, good), True)
        self.assertIs(judge_difference(one, one, good), False)
        for value in [events_in('<a x="2"/>'), events_in("<a/>"), events_in('<b x="1"/>'), good[:1], good[1:], good + good, tuple(good),
                      [*good, None], [Same(), Same()], [good[0], Same()], *ODD_CONTENTS]:
            self.assertIs(judge_difference(one, two, value), False)

    def test_too_many(self):
        # A hundred cases are looked at, more are not.
        schema = "root a\na = a " + " ".join("@" + name for name in "stuv") + " : b?\nb = b : empty\n"
        bodies = ['make p ( q = ' + " + ".join("@ " + name for name in names) + " ) { }" for names in ("stuv", "tusv")]
        one = facts_of(schema, "rule m a { " + bodies[0] + " }")
        self.assertEqual(compare(one, one)[0], "alike")
        self.assertEqual(compare(one, facts_of(schema, "rule m a { " + bodies[1] + " }"))[0], "differ")
        more = 'if @ s = "1" { } else { ' + bodies[0] + " }"
        facts = facts_of(schema, "rule m a { " + more + " }")
        self.assertEqual(len(facts.cases("a")), 4)
        refused(self, TooMany, compare, facts, one)
        refused(self, TooMany, compare, one, facts)
        refused(self, TooMany, judge_meetings, one, facts, (("a", "m", "m"),))
        # 10 choices of both attributes are a hundred cases; one string more is too many.
        ifs = ['if @ s = "1" { "-" }', *[f'if @ s = "{number}" {{ }}' for number in range(2, 8)], *[f'if @ t = "{number}" {{ }}' for number in range(1, 8)]]
        schema = "root a\na = a @s @t : empty\n"
        first, second = facts_of(schema, "rule m a { " + " ".join(ifs) + " }"), facts_of(schema, 'rule m a { if @ s = "1" { "-" } if @ t { } }')
        self.assertEqual(len(first.cases("a")), 100)
        self.assertEqual(compare(first, second), ("alike", (("a", "m", "m"),)))
        self.assertIs(judge_meetings(second, first, (("a", "m", "m"),)), True)
        third = facts_of(schema, 'rule m a { if @ s = "1" { "-" } if @ t = "8" { } }')
        refused(self, TooMany, compare, first, third)
        refused(self, TooMany, judge_meetings, third, first, (("a", "m", "m"),))
        # Only types that are looked at count.
        schema = "root a\na = a " + " ".join("@" + name for name in "stuv") + " : b?\nb = b : empty\n"
        away = facts_of(schema.replace("root a", "root r\nr = r : a*"), "rule m a { " + more + " }")
        self.assertEqual(compare(away, away), ("alike", (("r", "m", "m"),)))

    def test_plain_outputs_of_too_many_events(self):
        schema = "root a\na = a : a?, b\nb = b : empty\n"
        twice = "rule m a { each m ( a ) each m ( a ) each m ( b ) } rule m b { \"x\" }"
        document = [("start", "a", ())] * 16 + [("start", "b", ()), ("end", "b"), ("end", "a")] * 16
        facts, other = facts_of(schema, twice), facts_of(schema, "")
        for pair in ((facts, other), (other, facts)):
            refused(self, TooMany, judge_difference, *pair, document)
            self.assertIs(judge_difference(*pair, document[8:-24]), True)
            self.assertIs(judge_difference(*pair, document[1:]), False)

    def test_elements_that_are_too_long(self):
        schema = "root a\na = a : b?\nb = b : " + ", ".join(["c"] * 9) + "\nc = c : " + ", ".join(["d"] * 9) + "\nd = d : {}\n"
        for many, error in ((2, None), (9, TooMany)):
            text = schema.replace("{}", ", ".join(["e"] * many)) + "e = e : empty\n"
            one, two = facts_of(text, 'rule m a { each m ( b ) } rule m b { "x" }'), facts_of(text, "")
            if error is None:
                answer, document = compare(one, two)
                self.assertEqual((answer, judge_difference(one, two, document)), ("differ", True))
            else:
                refused(self, error, compare, one, two)


def changed(chance, program):
    """The program with a change or two of its rules."""
    rules = dict(program["rules"])
    for _ in range(chance.randrange(3) if rules else 0):
        key = chance.choice(sorted(rules))
        rules[key] = changed_body(chance, program, rules[key])
    return {**program, "rules": rules}


def changed_body(chance, program, body):
    body = list(body)
    if not body:
        return ()
    at = chance.randrange(len(body))
    item = body[at]
    which = chance.randrange(5)
    if which == 0:
        body.pop(at)
    elif which == 1:
        body.append(body.pop(at))
    elif item[0] == "each" and len(item[2]) > 1 and which == 2:
        cut = chance.randrange(1, len(item[2]))
        body[at:at + 1] = [("each", item[1], item[2][:cut]), ("each", item[1], item[2][cut:])]
    elif item[0] == "each":
        body[at] = ("each", chance.choice(sorted(program["modes"])), item[2])
    elif item[0] == "text":
        body[at] = ("text", chance.choice(STRINGS))
    elif item[0] in ("make", "if"):
        body[at] = (*item[:3], *[changed_body(chance, program, inner) for inner in item[3:]])
    return tuple(body)


class RandomTest(CompareCase):
    def test_random(self):
        chance = random.Random(70)
        seen = {"alike": 0, "differ": 0, "others": 0, "long": 0}
        for _ in range(4000):
            grammar = Grammar(random_schema(chance, small_content, is_schema))
            program = random_program(chance, grammar)
            try:
                facts, other = Facts(grammar, program), Facts(grammar, changed(chance, program))
            except TooMany:
                continue
            if not uses_once(facts) or not uses_once(other):
                continue
            answer, told = compare(facts, other)
            seen[answer] += 1
            if answer == "differ":
                self.check_document(facts, other, told)
                seen["long"] += len(told) > 4
                continue
            seen["others"] += program != other.program
            self.assertIs(judge_meetings(facts, other, told), True)
            self.check_meetings(facts, other, told)
            for _ in range(5):
                document = random_document(chance, grammar, chance.randrange(1, 25))
                self.assertIs(judge_difference(facts, other, document), False)
        self.assertGreater(min(seen.values()), 15, seen)


if __name__ == "__main__":
    unittest.main()
