"""[66] to [68]: whether a right output can still come, event by event, shortest right completions, least costs."""

import copy
import random
import unittest

from hewstream.errors import NotDocument, TooMany
from hewstream.facts import Facts
from hewstream.guards import Guard, first_wrong, least_costs
from hewstream.outcheck import check_output, keys_of
from hewstream.schemas import Grammar, is_schema
from hewstream.validator import validate
from output_oracle import is_right, seen_behaviour
from program_oracle import all_documents, random_document, random_program, some
from schema_oracle import random_schema, small_content
from shorthand import events_in, facts_of, grammar_of, refused
from test_facts import grammar_from
from test_outcheck import ring


def beginnings(documents):
    """A dict from all beginnings of the documents, as tuples, to the lengths of the documents that go on from them."""
    found = {}
    for document in documents:
        for number in range(len(document) + 1):
            found.setdefault(tuple(document[:number]), []).append(len(document))
    return found


class GuardCase(unittest.TestCase):
    def walk(self, facts, output, document):
        """What the guard tells ahead of the first event and behind each one; its completions are looked at."""
        guard = Guard(facts, output)
        told = [guard.can_be_right()]
        self.look(guard, facts, output, [])
        for number, event in enumerate(document):
            answer = guard.take(event)
            self.assertIs(answer, guard.can_be_right())
            told.append(answer)
            self.look(guard, facts, output, document[:number + 1])
        self.assertTrue(all(answer in (True, False) and type(answer) is bool for answer in told))
        wrong = [number for number in range(len(document)) if not told[number + 1]]
        self.assertEqual(first_wrong(facts, output, document), wrong[0] if wrong else -1)
        return told

    def look(self, guard, facts, output, taken):
        row = guard.completion()
        self.assertEqual(row is not None, guard.can_be_right())
        if row is not None:
            self.assertIs(type(row), list)
            self.assertEqual(validate(facts.grammar, taken + row), (-1, ""))
            self.assertTrue(is_right(facts.grammar, facts.program, output, taken + row))
            self.assertEqual(row, guard.completion())


class WalkTest(GuardCase):
    def test_example(self):
        # The root's output needs a b that only a child x writes.
        facts = facts_of("root r\nr = r : x | y\nx = x : chars\ny = y : chars\n",
                         "rule m r { make a { each m ( x , y ) } } rule m x { make b { } } rule m y { }")
        output = grammar_of("root a\na = a : b\nb = b : empty\n")
        self.assertEqual(self.walk(facts, output, events_in("<r><y>a</y></r>")), [True, True, False, False, False, False])
        self.assertEqual(self.walk(facts, output, events_in("<r><x>a</x></r>")), [True] * 6)
        self.assertEqual(first_wrong(facts, output, events_in("<r><y/></r>")), 1)
        self.assertEqual(first_wrong(facts, output, events_in("<r><x/></r>")), -1)
        guard = Guard(facts, output)
        self.assertEqual(guard.completion(), events_in("<r><x/></r>"))
        guard.take(("start", "r", ()))
        self.assertEqual(guard.completion(), events_in("<r><x/></r>")[1:])
        guard.take(("start", "y", ()))
        self.assertIsNone(guard.completion())

    def test_always_right(self):
        facts = facts_of("root a\na = a : (a | chars)*\n", "rule m a { make p { each d ( char ) } }")
        output = grammar_of("root p\np = p : empty\n")
        self.assertEqual(self.walk(facts, output, events_in("<a>x<a>y</a></a>")), [True] * 7)
        guard = Guard(facts, output)
        for event in events_in("<a>x<a>y</a></a>"):
            guard.take(event)
        self.assertEqual(guard.completion(), [])

    def test_never_right(self):
        facts = facts_of("root a\na = a : chars\n", "rule m a { each m ( char ) }")
        output = grammar_of("root p\np = p : empty\n")
        self.assertEqual(self.walk(facts, output, events_in("<a>x</a>")), [False] * 4)
        self.assertEqual(first_wrong(facts, output, []), -1)
        self.assertEqual(first_wrong(facts, output, [("start", "a", ())]), 0)
        self.assertIsNone(Guard(facts, output).completion())

    def test_end_of_the_document(self):
        # No more than one b; two of them are needed, and can be until the root ends.
        facts = facts_of("root a\na = a : b*\nb = b : empty\n", "rule m a { make p { each m ( b ) } } rule m b { make q { } }")
        output = grammar_of("root p\np = p : (q, q)+\nq = q : empty\n")
        self.assertEqual(self.walk(facts, output, events_in("<a><b/></a>")), [True, True, True, True, False])
        self.assertEqual(self.walk(facts, output, events_in("<a><b/><b/></a>")), [True] * 7)
        guard = Guard(facts, output)
        self.assertEqual(guard.completion(), events_in("<a><b/><b/></a>"))
        guard.take(("start", "a", ()))
        guard.take(("start", "b", ()))
        self.assertEqual(guard.completion(), [("end", "b"), *events_in("<a><b/></a>")[1:]])

    def test_attributes(self):
        facts = facts_of("root a\na = a @x : b?\nb = b : empty\n",
                         'rule m a { if @ x = "1" { make p { } } else { make p { each m ( b ) @ x } } } rule m b { make q { } }')
        output = grammar_of("root p\np = p : q?\nq = q : empty\n")
        for value, expected in (("1", True), ("2", False), ("", True), ("<&>", False)):
            start = ("start", "a", (("x", value),))
            self.assertEqual(self.walk(facts, output, [start, ("end", "a")]), [True, expected, expected])
        self.assertEqual(self.walk(facts, output, [("start", "a", ()), ("end", "a")]), [True] * 3)

    def test_signs(self):
        facts = facts_of("root a\na = a : chars, b?\nb = b : chars\n", 'rule m a { make p { each m ( char , b ) } } rule m b { each m ( char ) }')
        output = grammar_of("root p\np = p : empty\n")
        self.assertEqual(self.walk(facts, output, events_in("<a><b>x</b></a>")), [True] * 3 + [False] * 3)
        self.assertEqual(self.walk(facts, output, events_in("<a>x<b/></a>")), [True] * 2 + [False] * 4)

    def test_what_still_may_come_in_the_elements_around(self):
        # A b can make up for what is missing only behind the c.
        facts = facts_of("root a\na = a : c, b?, d?\nb = b : empty\nc = c : e*\nd = d : empty\ne = e : empty\n",
                         "rule m a { make p { each m ( c , b , d ) } } rule m c { each m ( e ) } rule m e { make q { } } rule m b { make q { } } "
                         "rule m d { make r { } }")
        output = grammar_of("root p\np = p : q, q, q, r?\nq = q : empty\nr = r : empty\n")
        for text, expected in (("<a><c><e/><e/></c><b/></a>", [True] * 11), ("<a><c><e/><e/><e/></c></a>", [True] * 11),
                               ("<a><c><e/></c><b/></a>", [True] * 5 + [False] * 4),
                               ("<a><c><e/><e/></c><d/></a>", [True] * 8 + [False] * 3),
                               ("<a><c><e/><e/><e/><e/></c></a>", [True] * 9 + [False] * 4)):
            told = self.walk(facts, output, events_in(text))
            self.assertEqual(told[:len(expected)], expected[:len(told)], text)

    def test_shortest_over_several_elements(self):
        # A q must come: by a d within the open b, or by a c behind it; which is shorter depends on how long they are.
        rules = "rule m a { make p { each m ( b , c ) } } rule m b { each m ( d ) } rule m c { make q { } } rule m d { make q { } }"
        output = grammar_of("root p\np = p : q\nq = q : empty\n")
        for inner, outer, expected in (("empty", "e, e", "<d/></b></a>"), ("e, e", "empty", "</b><c/></a>"), ("e", "e, e", "<d><e/></d></b></a>"),
                                       ("e, e, e", "e, e", "</b><c><e/><e/></c></a>")):
            schema = f"root a\na = a : b, c?\nb = b : d?\nc = c : {outer}\nd = d : {inner}\ne = e : empty\n"
            facts = facts_of(schema, rules)
            begun = [("start", "a", ()), ("start", "b", ())]
            whole = events_in("<a><b>" + expected)
            guard = Guard(facts, output)
            self.assertEqual(guard.completion(), whole)
            for event in begun:
                guard.take(event)
            self.assertEqual(guard.completion(), whole[2:])
            self.walk(facts, output, whole)

    def test_deep(self):
        facts = facts_of("root a\na = a : a?\n", "rule m a { make p { each m ( a ) } }")
        output = grammar_of("root p\np = p : q?\nq = q : p?\n")
        self.assertEqual(first_wrong(facts, output, [("start", "a", ())] * 400), 1)
        output = grammar_of("root p\np = p : p?\n")
        guard = Guard(facts, output)
        for _ in range(400):
            self.assertIs(guard.take(("start", "a", ())), True)
        self.assertEqual(guard.completion(), [("end", "a")] * 400)


class FaultTest(unittest.TestCase):
    FACTS = facts_of("root a\na = a @x! : b?\nb = b : empty\n", "rule m a { make p { } }")
    OUTPUT = grammar_of("root p\np = p : empty\n")

    def test_events_that_cannot_come(self):
        start = ("start", "a", (("x", ""),))
        for events in ([("end", "a")], [("char", "a")], [("start", "b", ())], [("start", "a", ())], [start, ("char", "x")],
                       [start, ("start", "a", (("x", ""),))], [start, ("end", "b")], [start, ("start", "b", ()), ("end", "a")],
                       [start, ("end", "a"), start], [start, ("end", "a"), ("char", " ")],
                       [start, ("start", "b", ()), ("end", "b"), ("start", "b", ())]):
            guard = Guard(self.FACTS, self.OUTPUT)
            for event in events[:-1]:
                self.assertIs(guard.take(event), True)
            self.assertEqual(refused(self, NotDocument, guard.take, events[-1]).number, len(events) - 1)

    def test_too_many(self):
        facts = facts_of("root r\nr = r : b*\nb = b : empty\n", "rule m r { make o { make p { each m ( b ) } make q { each m ( b ) } } } rule m b "
                                                                "{ make x { } }")
        for one, other in ((25, 12), (17, 18)):
            output = grammar_of("root o\no = o : p, q\n" + ring("p", "x", one) + ring("q", "x", other) + "x = x : empty\n")
            if check_output(facts, output)[0] == "many":
                refused(self, TooMany, Guard, facts, output)
                refused(self, TooMany, first_wrong, facts, output, [])
                refused(self, TooMany, least_costs, facts, output)
            else:
                # Of 300 numbers of b none but multiples of all are right.
                guard = Guard(facts, output)
                self.assertIs(guard.take(("start", "r", ())), True)
                self.assertEqual(guard.completion(), [("end", "r")])
                guard.take(("start", "b", ()))
                self.assertEqual(len(guard.completion()), 1 + 299 * 2 + 1)
        self.assertEqual(one * other, 306)


class CostsTest(unittest.TestCase):
    def test_costs(self):
        facts = facts_of("root a\na = a : b, b?\nb = b : chars, c?\nc = c : empty\n",
                         "rule m a { make p { each m ( b ) } } rule m b { each m ( char , c ) } rule m c { make q { } }")
        output = grammar_of("root p\np = p : q?\nq = q : empty\n")
        costs = least_costs(facts, output)
        none, one, more = [((("m", "p"), ends),) for ends in ((0, 1), (1, -1), (-1, -1))]
        # A q by a c; more than one of them, or a sign, is a fault.
        self.assertEqual(costs["b"], {none: 2, one: 4, more: 3})
        self.assertEqual(costs["c"], {one: 2})
        self.assertEqual(costs["a"], {((("m", ""), (1, -1)),): 4, ((("m", ""), (-1, -1)),): 5})

    def test_types_that_are_not_used(self):
        facts = facts_of("root a\na = a : b\nb = b @x! : chars, c\nc = c : empty\n", "rule m a { make p { } }")
        output = grammar_of("root p\np = p : empty\n")
        self.assertEqual(least_costs(facts, output), {"a": {((("m", ""), (1, -1)),): 6}, "b": {(): 4}, "c": {(): 2}})


class RandomTest(GuardCase):
    def cases(self, chance):
        while True:
            grammar = Grammar(random_schema(chance, small_content, is_schema))
            output = Grammar(random_schema(chance, small_content, is_schema))
            program = random_program(chance, grammar)
            if chance.random() < 0.9:
                # Outputs with the right root are right more often.
                key = (program["start"], grammar.root)
                needed = tuple((name, (("text", ""),)) for name, must in output.attributes_of(output.root) if must)
                make = ("make", output.name_of(output.root), needed, program["rules"].get(key, ()))
                program = {**program, "rules": {**program["rules"], key: (make,)}}
            try:
                facts = Facts(grammar, program)
                Guard(facts, output)
            except TooMany:
                continue
            yield facts, output

    def test_all_short_documents(self):
        chance = random.Random(66)
        seen = {"yes": 0, "no": 0, "turned": 0, "exact": 0}
        for facts, output in some(self.cases(chance), 150):
            kept = copy.deepcopy((facts.program, output.schema()))
            documents = some(all_documents(facts.grammar, facts.cases, 9, 25), 60)
            right = [document for document in documents if is_right(facts.grammar, facts.program, output, document)]
            good = beginnings(right)
            for document in chance.sample(documents, min(4, len(documents))):
                guard = Guard(facts, output)
                answers = [guard.can_be_right()]
                for number in range(len(document) + 1):
                    if number:
                        answers.append(guard.take(document[number - 1]))
                    row = guard.completion()
                    self.assertEqual(row is not None, answers[-1])
                    lengths = good.get(tuple(document[:number]), [])
                    if lengths:
                        # No right document that goes on from here is shorter.
                        self.assertIs(answers[-1], True)
                        self.assertLessEqual(number + len(row), min(lengths))
                        seen["exact"] += number + len(row) == min(lengths)
                    if row is not None:
                        self.assertEqual(validate(facts.grammar, document[:number] + row), (-1, ""))
                        self.assertTrue(is_right(facts.grammar, facts.program, output, document[:number] + row))
                    seen["yes" if answers[-1] else "no"] += 1
                seen["turned"] += answers[0] and not answers[-1]
                self.assertEqual(answers, sorted(answers, reverse=True))
                self.assertEqual(answers[-1], is_right(facts.grammar, facts.program, output, document))
            self.assertEqual((facts.program, output.schema()), kept)
        self.assertGreater(min(seen.values()), 30, seen)

    def test_costs(self):
        chance = random.Random(68)
        seen = 0
        for facts, output in some(self.cases(chance), 60):
            costs = least_costs(facts, output)
            keys = keys_of(facts, output)
            self.assertEqual(sorted(costs), facts.grammar.types())
            for kind in facts.grammar.types():
                own = grammar_from(facts.grammar.schema(), kind)
                least = {}
                for document in some(all_documents(own, facts.cases, 8, 40), 80):
                    told = seen_behaviour(own, facts.program, output, keys[kind], document)
                    least[told] = min(len(document), least.get(told, 99))
                for told, cost in least.items():
                    self.assertLessEqual(costs[kind][told], cost)
                    seen += costs[kind][told] == cost
                answer, table = check_output(facts, output)
                if answer == "right":
                    self.assertEqual(table[kind], tuple(sorted(costs[kind])))
        self.assertGreater(seen, 100)

    def test_the_same_completions(self):
        # Of programs that are written in another order, too.
        chance = random.Random(67)
        for facts, output in some(self.cases(chance), 40):
            program = facts.program
            other = Facts(facts.grammar, {"rules": dict(reversed(program["rules"].items())), "start": program["start"],
                                          "modes": dict(reversed(program["modes"].items()))})
            document = random_document(chance, facts.grammar, 8)
            guards = [Guard(facts, output), Guard(other, output), Guard(facts, output)]
            # The last one is asked nothing on the way.
            for number, event in enumerate(document[:-1]):
                rows = [guard.completion() for guard in guards[:2]]
                self.assertEqual(rows[0], rows[1])
                for guard in guards:
                    guard.take(event)
            self.assertEqual(guards[0].completion(), guards[2].completion())


if __name__ == "__main__":
    unittest.main()
