"""[79]: what leaves from a skimmer, what it passes over, and events that cannot come."""

import random
import unittest

from hewstream.errors import NotDocument, TooMany
from hewstream.facts import Facts
from hewstream.machine import Machine
from hewstream.plain import plain_output
from hewstream.schemas import Grammar, is_schema
from hewstream.skimmer import Skimmer
from hewstream.skipping import decide_skip
from program_oracle import element_of, plain_meaning, random_document, random_program
from schema_oracle import random_schema, small_content
from shorthand import events_in, facts_of, refused, signs


class SkimmerCase(unittest.TestCase):
    def walk(self, facts, document):
        """All that leaves, and for each event True if it was passed over."""
        skimmer = Skimmer(facts)
        told, row = [], []
        self.assertIs(skimmer.passes(), False)
        for event in document:
            self.assertIs(skimmer.wholly(), False)
            passes, passed = skimmer.passes(), skimmer.passed()
            left = skimmer.event(event)
            row.append(skimmer.passed() > passed)
            self.assertEqual(skimmer.passed(), passed + row[-1])
            self.assertTrue(passes or not row[-1])
            if row[-1]:
                self.assertEqual(left, [])
                self.assertIs(skimmer.passes(), True)
            told += left
        self.assertIs(skimmer.wholly(), True)
        self.assertIs(skimmer.passes(), False)
        self.assertEqual(told, plain_output(facts.grammar, facts.program, document))
        return told, row


class WalkTest(SkimmerCase):
    def check(self, facts, text, passed):
        """The events that are passed over are marked with an x, others with a dot."""
        document = events_in(text)
        told, row = self.walk(facts, document)
        self.assertEqual("".join("x" if one else "." for one in row), passed)
        return told

    def test_the_whole_inside(self):
        self.check(facts_of("root a\na = a : (b | chars)*\nb = b : a?\n", "rule m a { each d ( char ) \"x\" }"), "<a>x<b/><b><a/></b></a>", ".xxxxxxx.")
        told = self.check(facts_of("root a\na = a : b\nb = b : chars\n", 'rule m a { each m ( b ) } rule m b { "x" }'),
                          "<a><b>pq</b></a>", ".xxxx.")
        self.assertEqual(told, [signs("x", 1)])

    def test_parts(self):
        schema = "root a\na = a : (b | c | d)*\nb = b : chars\nc = c : (b | chars)*\nd = d : b, chars\n"
        facts = facts_of(schema, 'rule m a { each m ( b , c , d ) } rule m b { each m ( char ) } rule m c { "c" } rule m d { "(" each n ( b ) ")" } '
                                 'rule n b { "n" }')
        told = self.check(facts, "<a><b>x</b><c>y<b>z</b></c><d><b>1</b>2</d><b>w</b></a>", "...." + ".xxxx." + ".xxxx." + "..." + ".")
        self.assertEqual(told, [(("char", "x"), 2), signs("c", 4), signs("(", 10), signs("n", 11), signs(")", 10), (("char", "w"), 17)])

    def test_elements_without_frames(self):
        facts = facts_of("root a\na = a : (b | chars)*\nb = b : a*\n", "rule m a { each m ( char ) }")
        self.check(facts, "<a>x<b><a>y</a><a/></b>z<b/></a>", "...xxxxx." + "..." + ".")

    def test_elements_within_the_one_passed_over(self):
        # The inner elements of the same name do not end it.
        facts = facts_of("root a\na = a : (b | chars)*\nb = b : (b | chars)*\n", 'rule m a { each m ( b , char ) } rule m b { "b" }')
        told = self.check(facts, "<a><b>x<b><b/>y</b><b/></b>z</a>", "..xxxxxxxx...")
        self.assertEqual(told, [signs("b", 1), (("char", "z"), 11)])

    def test_places_of_the_least_inside(self):
        # It is shorter than the inside that comes.
        facts = facts_of("root a\na = a : b, c\nb = b : d, e*\nc = c : chars\nd = d : empty\ne = e : chars\n",
                         'rule m a { each m ( b ) "-" each m ( c ) } rule m b { each m ( d ) "." } rule m d { "d" } rule m c { each m ( char ) }')
        told = self.check(facts, "<a><b><d/><e>x</e><e/></b><c>yz</c></a>", "..xxxxxxx......")
        self.assertEqual(told, [signs("d", 2), signs(".", 1), signs("-", 0), (("char", "y"), 11), (("char", "z"), 12)])

    def test_places_of_later_events_of_the_least_inside(self):
        facts = facts_of("root a\na = a : b, b\nb = b : d, e, d, c*\nc = c : chars\nd = d : empty\ne = e : d\n",
                         'rule m a { each m ( b ) } rule m b { each m ( d , e ) } rule m d { "d" } rule m e { "e" each m ( d ) }')
        told = self.check(facts, "<a><b><d/><e><d/></e><d/></b><b><d/><e><d/></e><d/><c>x</c></b></a>", "..xxxxxxxx..xxxxxxxxxxx..")
        self.assertEqual([place for _, place in told], [2, 4, 5, 8, 12, 14, 15, 18])

    def test_leaves_early(self):
        facts = facts_of("root a\na = a : b, c\nb = b : d?\nc = c : d?\nd = d : empty\n",
                         'rule m a { each m ( b ) each m ( c ) } rule m b { "x" each d ( d ) "y" } rule m c { each n ( d ) "z" } rule d d { }')
        skimmer = Skimmer(facts)
        rows = [skimmer.event(event) for event in events_in("<a><b><d/></b><c/></a>")]
        # The root itself can not be passed over: the place of z is not the same one each time.
        self.assertEqual(rows, [[], [signs("x", 1), signs("y", 1)], [], [], [], [signs("z", 5)], [], []])
        self.assertEqual(skimmer.passed(), 2)

    def test_attributes(self):
        facts = facts_of("root a\na = a : b*\nb = b @x : chars\n", 'rule m a { each m ( b ) } rule m b { if @ x = "1" { "q" } else { each m ( char ) } }')
        told = self.check(facts, '<a><b x="1">pp</b><b x="2">r</b><b x="1">s</b></a>', ".." + "xx." + "..." + ".x." + ".")
        self.assertEqual([event for event, _ in told], [("signs", "q"), ("char", "r"), ("signs", "q")])

    def test_several_frames(self):
        # In one mode the inside does not matter, in the other one it does.
        facts = facts_of("root a\na = a : (b | c)*\nb = b : chars\nc = c : chars\n",
                         'rule m a { each m ( b , c ) each n ( c ) } rule m b { "b" } rule m c { "c" } rule n c { each m ( char ) }')
        self.check(facts, "<a><b>x</b><c>y</c></a>", ".." + "x." + "..." + ".")


class FaultTest(unittest.TestCase):
    FACTS = facts_of("root a\na = a : (b | c)*\nb = b @x! : chars\nc = c : chars\n", 'rule m a { each m ( b , c ) } rule m b { each m ( char ) } rule m c { "c" }')

    def check(self, events, number=None):
        skimmer = Skimmer(self.FACTS)
        for event in events[:-1]:
            skimmer.event(event)
        if number is None:
            skimmer.event(events[-1])
        else:
            self.assertEqual(refused(self, NotDocument, skimmer.event, events[-1]).number, number)

    def test_ahead_and_behind(self):
        a, c = ("start", "a", ()), ("start", "c", ())
        passed = [c, ("char", "x"), ("start", "z", ()), ("char", "y"), ("end", "z"), ("end", "c")]
        self.check([("start", "c", ())], 0)
        self.check([("end", "a")], 0)
        self.check([a, ("char", "x")], 1)
        self.check([a, ("start", "b", ())], 1)
        self.check([a, ("end", "c")], 1)
        # What is not looked at may be anything, but for the end of the element.
        self.check([a, *passed])
        self.check([a, c, ("end", "b")], 2)
        self.check([a, *passed[:-1], ("end", "b")], 6)
        self.check([a, *passed, ("char", "x")], 7)
        self.check([a, *passed, ("start", "b", ())], 7)
        self.check([a, *passed, c, ("char", "x"), ("end", "a")], 9)
        self.check([a, *passed, ("end", "a"), a], 8)
        self.check([a, *passed, ("start", "b", (("x", ""),)), ("char", "z"), c], 9)

    def test_too_many(self):
        schema = "root a\na = a : {} | (b, b, b, b, b)\nb = b : " + ", ".join(["c"] * 10) + "\nc = c : " + ", ".join(["d"] * 10) + "\nd = d : empty\n"
        refused(self, TooMany, Skimmer(facts_of(schema.replace("{}", "(b, b, b, b, b, b)"), "")).event, ("start", "a", ()))
        self.assertEqual(Skimmer(facts_of(schema.replace("{}", "d"), "")).event(("start", "a", ())), [])
        # An element whose least inside is too long is not asked about within one that is passed over.
        text = "root r\nr = r : a?\n" + schema[len("root a\n"):].replace("{}", "(b, b, b, b, b, b)")
        skimmer = Skimmer(facts_of(text, ""))
        self.assertEqual([skimmer.event(event) for event in (("start", "r", ()), ("start", "a", ()))], [[], []])
        skimmer = Skimmer(facts_of(text, "rule m r { each m ( a ) } rule m a { each m ( b ) } rule m b { \"x\" }"))
        skimmer.event(("start", "r", ()))
        refused(self, TooMany, skimmer.event, ("start", "a", ()))


class RandomTest(SkimmerCase):
    def test_random(self):
        chance = random.Random(79)
        seen = {"passed": 0, "not": 0, "output": 0, "later": 0}
        for _ in range(700):
            grammar = Grammar(random_schema(chance, small_content, is_schema))
            try:
                facts = Facts(grammar, random_program(chance, grammar))
                document = random_document(chance, grammar, chance.randrange(1, 25))
                Machine(grammar, facts.program)
                told, row = self.walk(facts, document)
            except TooMany:
                continue
            self.assertEqual(told, plain_meaning(grammar, facts.program, document))
            seen["passed"] += any(row)
            seen["not"] += not any(row)
            seen["output"] += any(row) and len(told) > 1
            seen["later"] += any(row) and not row[1]
            self.check_passed(facts, document, row)
        self.assertGreater(min(seen.values()), 40, seen)

    def check_passed(self, facts, document, row):
        """Just the insides of the outermost elements for which decide_skip tells "same"."""
        uses = {}
        todo = [(element_of(facts.grammar, document), [facts.program["start"]])]
        while todo:
            element, modes = todo.pop()
            uses[element.place] = (element, tuple(sorted(set(modes))))
            lanes = [lane for mode in modes for lane in facts.lanes(mode, element.kind, tuple(sorted(element.attributes.items())))]
            for child in element.children:
                if not isinstance(child, tuple):
                    todo.append((child, sorted({mode for mode, symbols in lanes if child.kind in symbols})))
        nested, inside = 0, None
        for number, event in enumerate(document):
            nested -= event[0] == "end"
            if inside == nested and event[0] == "end":
                inside = None
            self.assertIs(row[number], inside is not None)
            if event[0] == "start" and inside is None:
                element, modes = uses[number]
                if decide_skip(facts, element.kind, event[2], modes)[0] == "same":
                    inside = nested
            nested += event[0] == "start"


if __name__ == "__main__":
    unittest.main()
