"""[39] to [44]: what leaves with each event, what is kept, shapes and frames, and documents that are none."""

import copy
import random
import unittest

from frame_oracle import Moment
from hewstream.errors import NotDocument, NotValid, TooMany
from hewstream.facts import Facts
from hewstream.machine import Machine, run_document
from hewstream.plain import plain_output
from hewstream.schemas import Grammar, is_schema, read_schema
from hewstream.syntax import parse_program
from hewstream.tokens import read_text
from hewstream.validator import validate
from program_oracle import closings, continuations, plain_meaning, random_document, random_program, some
from schema_oracle import random_schema, small_content


def events_in(text):
    return read_text([ord(sign) for sign in text])


def grammar_of(text):
    return Grammar(read_schema(text))


def rules(text, modes="mode m keeps mode d drops"):
    return parse_program("start m " + modes + " " + text)


def signs(string, place):
    return ("signs", string), place


def char(sign, place):
    return ("char", sign), place


class WalkTest(unittest.TestCase):
    def check(self, grammar, program, text, rows):
        """Rows: for each event what leaves, and how many events are kept behind it."""
        document = events_in(text)
        machine = Machine(grammar, program)
        told = []
        for event, (left, kept) in zip(document, rows, strict=True):
            self.assertEqual(machine.event(event), left)
            self.assertEqual(machine.kept(), kept)
            told += left
        self.assertIs(machine.wholly(), True)
        self.assertEqual(told, plain_output(grammar, program, document))
        self.assertEqual(run_document(grammar, program, document), told)

    def test_example(self):
        self.check(grammar_of("root a\na = a : chars\n"), rules('rule m a { each m ( char ) "-" each m ( char ) }'),
                   "<a>xy</a>", [([], 0), ([char("x", 1)], 1), ([char("y", 2)], 2),
                                 ([signs("-", 0), char("x", 1), char("y", 2)], 0)])

    def test_own_events_leave_at_once(self):
        self.check(grammar_of("root a\na = a : b*\nb = b : chars\n"),
                   rules('rule m a { make p { each m ( b ) } } rule m b { "(" each m ( char ) ")" }'), "<a><b>x</b><b/></a>",
                   [([(("start", "p", ()), 0)], 0), ([signs("(", 1)], 0), ([char("x", 2)], 0), ([signs(")", 1)], 0),
                    ([signs("(", 4)], 0), ([signs(")", 4)], 0), ([(("end", "p"), 0)], 0)])

    def test_a_lane_ends_as_soon_as_nothing_can_come(self):
        # Behind the c no b can come: what stands behind the b leaves with the start of the c.
        grammar = grammar_of("root a\na = a : b*, c, d?\nb = b : empty\nc = c : empty\nd = d : empty\n")
        program = rules('rule m a { "1" each m ( b ) "2" each m ( d ) "3" } rule m b { "b" } rule m d { "d" }')
        self.check(grammar, program, "<a><b/><c/><d/></a>", [
            ([signs("1", 0)], 0), ([signs("b", 1)], 0), ([], 0), ([signs("2", 0)], 0), ([], 0),
            ([signs("d", 5), signs("3", 0)], 0), ([], 0), ([], 0)])
        # A lane into which only comes what gives nothing is not waited for.
        program = rules('rule m a { "1" each d ( b ) "2" each m ( c ) "3" } rule m b { "b" }')
        self.check(grammar, program, "<a><b/><c/></a>", [
            ([signs("1", 0), signs("2", 0), signs("3", 0)], 0), *[([], 0)] * 5])

    def test_kept_behind_a_live_lane(self):
        # All b before all c, though c and b may come in any order.
        grammar = grammar_of("root a\na = a : (b | c)*\nb = b : empty\nc = c : chars\n")
        program = rules('rule m a { each m ( b ) "-" each m ( c ) "." } rule m b { "b" } rule m c { "(" each m ( char ) ")" }')
        self.check(grammar, program, "<a><c>xy</c><b/><c/></a>", [
            ([], 0), ([], 1), ([], 2), ([], 3), ([], 4), ([signs("b", 5)], 4), ([], 4), ([], 5), ([], 6),
            ([signs("-", 0), signs("(", 1), char("x", 2), char("y", 3), signs(")", 1), signs("(", 7), signs(")", 7),
              signs(".", 0)], 0)])

    def test_events_behind_the_first_live_lane_of_their_frame_are_not_written(self):
        grammar = grammar_of("root a\na = a : (b | c)*\nb = b : empty\nc = c : chars, d, chars\nd = d : empty\n")
        program = rules('rule m a { each m ( b ) each m ( c ) } rule m b { "b" } rule m c { "1" each m ( d ) "2" "3" each m '
                        '( char ) "4" } rule m d { "d" "d" }')
        self.check(grammar, program, "<a><c>x<d/>y</c></a>", [
            ([], 0), ([], 1), ([], 2), ([], 6), ([], 6), ([], 7), ([], 8),
            ([signs("1", 1), signs("d", 3), signs("d", 3), signs("2", 1), signs("3", 1), char("x", 2), char("y", 5),
              signs("4", 1)], 0)])

    def test_modes(self):
        grammar = grammar_of("root a\na = a : (a | chars)*\n")
        program = rules('rule m a { each m ( char ) each d ( a , char ) } rule d a { "d" each d ( char ) each m ( a ) }')
        self.check(grammar, program, "<a>x<a>y<a>z</a></a></a>", [
            ([], 0), ([char("x", 1)], 0), ([], 1), ([], 1), ([], 1), ([], 2), ([], 2), ([], 2),
            ([signs("d", 2), char("z", 5)], 0)])

    def test_one_child_in_several_lanes(self):
        grammar = grammar_of("root a\na = a : b*\nb = b : chars\n")
        program = rules('rule m a { each m ( b ) each d ( b ) each m ( b ) } rule m b { each m ( char ) } rule d b { "d" }')
        self.check(grammar, program, "<a><b>xy</b><b>z</b></a>", [
            ([], 0), ([], 1), ([char("x", 2)], 2), ([char("y", 3)], 3), ([], 3), ([], 4), ([char("z", 6)], 5), ([], 5),
            ([signs("d", 1), signs("d", 5), char("x", 2), char("y", 3), char("z", 6)], 0)])


class ShapeTest(unittest.TestCase):
    def test_before_and_behind(self):
        grammar, program = grammar_of("root a\na = a : chars\n"), rules("rule m a { each m ( char ) }")
        machine = Machine(grammar, program)
        for begun in (False, True):
            self.assertEqual(machine.shape(), ((), None))
            self.assertEqual((machine.frames(), machine.depth(), machine.kept()), (0, 0, 0))
            self.assertIs(machine.wholly(), begun)
            if not begun:
                machine.event(("start", "a", ()))
                self.assertIs(machine.wholly(), False)
                machine.event(("end", "a"))

    def test_walk(self):
        grammar = grammar_of("root a\na = a @x : b*, c?\nb = b : chars\nc = c : empty\n")
        program = rules('rule m a { each m ( b ) @ x each d ( b , c ) each m ( c ) } rule m b { each m ( char ) "-" } rule d c '
                        '{ "c" }')
        machine = Machine(grammar, program)
        frame = ("event", ("signs", "1"))
        inner = ("lane", "m", ("char",), True, None), ("event", ("signs", "-"))
        for event, elements, form, frames in (
                (("start", "a", (("x", "1"),)), [("a", 0)],
                 (("lane", "m", ("b",), True, None), frame, ("lane", "d", ("b", "c"), True, None),
                  ("lane", "m", ("c",), False, None)), 1),
                (("start", "b", ()), [("a", 0), ("b", 0)],
                 (("lane", "m", ("b",), True, inner), frame, ("lane", "d", ("b", "c"), True, ()),
                  ("lane", "m", ("c",), False, None)), 3),
                (("char", "x"), [("a", 0), ("b", 0)],
                 (("lane", "m", ("b",), True, inner), frame, ("lane", "d", ("b", "c"), True, ()),
                  ("lane", "m", ("c",), False, None)), 3),
                (("end", "b"), [("a", 0)],
                 (("lane", "m", ("b",), True, None), frame, ("lane", "d", ("b", "c"), True, None),
                  ("lane", "m", ("c",), False, None)), 1),
                (("start", "c", ()), [("a", 1), ("c", 0)],
                 (("lane", "m", ("b",), False, None), frame, ("lane", "d", ("b", "c"), False, (("event", ("signs", "c")),)),
                  ("lane", "m", ("c",), False, ())), 3),
                (("end", "c"), [("a", 1)],
                 (("lane", "m", ("b",), False, None), frame, ("lane", "d", ("b", "c"), False, None),
                  ("lane", "m", ("c",), False, None)), 1)):
            machine.event(event)
            self.assertEqual(machine.shape(), (tuple(elements), form))
            self.assertEqual((machine.frames(), machine.depth()), (frames, len(elements)))
            self.assertIs(machine.wholly(), False)

    def test_elements_without_frames(self):
        grammar = grammar_of("root a\na = a : b*\nb = b : a?\n")
        machine = Machine(grammar, rules('rule m a { "x" }'))
        for number, event in enumerate(events_in("<a><b><a/></b></a>")):
            self.assertEqual(machine.event(event), [signs("x", 0)] if number == 0 else [])
            depth = (1, 2, 3, 2, 1, 0)[number]
            self.assertEqual((machine.depth(), machine.frames()), (depth, 1 if depth else 0))
            self.assertEqual(machine.shape()[1], (("event", ("signs", "x")),) if depth else None)

    def test_deep(self):
        # 1000 frames, each within the one before.
        grammar = grammar_of("root a\na = a : a?\n")
        machine = Machine(grammar, rules('rule m a { "x" each m ( a ) "y" }'))
        for place in range(1000):
            self.assertEqual(machine.event(("start", "a", ())), [signs("x", place)])
        elements, form = machine.shape()
        self.assertEqual(elements, (("a", 1),) * 999 + (("a", 0),))
        for number in range(1000):
            self.assertEqual((form[0], form[2]), (("event", ("signs", "x")), ("event", ("signs", "y"))))
            self.assertEqual(form[1][:4], ("lane", "m", ("a",), number == 999))
            form = form[1][4]
        self.assertIsNone(form)
        # No more than one child can come: with the first end all lanes are dead.
        self.assertEqual(machine.event(("end", "a")), [signs("y", place) for place in reversed(range(1000))])
        self.assertEqual(run(machine, [("end", "a")] * 999), [])


class RandomTest(unittest.TestCase):
    def test_event_by_event(self):
        chance = random.Random(39)
        seen = {"kept": 0, "frames": 0, "later": 0, "most": 0}
        for _ in range(400):
            grammar = Grammar(random_schema(chance, small_content, is_schema))
            program = random_program(chance, grammar)
            facts = Facts(grammar, program)
            document = random_document(chance, grammar, chance.randrange(1, 20))
            if len(document) > 80:
                continue
            machine = Machine(grammar, program, facts) if chance.random() < 0.5 else Machine(grammar, program)
            told = []
            for number, event in enumerate(document):
                moment = Moment(facts, document[:number + 1])
                if len(moment.frames) > 1000:
                    seen["most"] += 1
                    with self.assertRaises(TooMany):
                        machine.event(event)
                    break
                left = machine.event(event)
                told += left
                self.assertEqual(told, moment.left)
                self.assertEqual(machine.kept(), moment.kept)
                self.assertEqual(machine.shape(), moment.shape)
                self.assertEqual(machine.frames(), len(moment.frames))
                self.assertEqual(machine.depth(), moment.depth)
                self.assertIs(machine.wholly(), moment.wholly)
                seen["kept"] += machine.kept() > 0
                seen["frames"] += machine.frames() > 3
                seen["later"] += any(place < number for _, place in left)
            else:
                self.assertIs(machine.wholly(), True)
                self.assertEqual(machine.kept(), 0)
                self.assertEqual(told, plain_meaning(grammar, program, document))
                self.assertEqual(run_document(grammar, program, document), told)
        self.assertGreater(min(seen["kept"], seen["frames"], seen["later"]), 100, seen)

    def test_as_early_as_any_continuation_allows(self):
        chance = random.Random(42)
        seen = {"earliest": 0, "waiting": 0}
        for _ in range(250):
            grammar = Grammar(random_schema(chance, small_content, is_schema))
            program = random_program(chance, grammar)
            facts = Facts(grammar, program)
            document = random_document(chance, grammar, chance.randrange(1, 12))
            document = document[:chance.randrange(1, len(document) + 1)]
            if len(document) > 25 or most_frames(facts, document) > 1000:
                continue
            told = run(Machine(grammar, program, facts), document)
            # How far the outputs of all continuations go on without an event that has not come yet.
            least = None
            for beginning in closings(grammar, document):
                for whole in some(continuations(grammar, beginning, lambda kind: facts.cases(kind)[-2:], 4), 150):
                    output = plain_meaning(grammar, program, whole)
                    many = [place < len(document) for _, place in [*output, (None, len(document))]].index(False)
                    self.assertEqual(output[:len(told)], told)
                    least = many if least is None else min(least, many)
                    if least == len(told):
                        break
                if least == len(told):
                    break
            seen["earliest"] += least == len(told)
            seen["waiting"] += least != len(told)
        # Sometimes a lane is live for the sake of a continuation that is longer than those looked at.
        self.assertGreater(seen["earliest"], 150)
        self.assertLess(seen["waiting"], 3)


def most_frames(facts, document):
    """The greatest number of frames behind any event of the document."""
    return max(len(Moment(facts, document[:number + 1]).frames) for number in range(len(document)))


def run(machine, events):
    return [row for event in events for row in machine.event(event)]


class MostFramesTest(unittest.TestCase):
    GRAMMAR = grammar_of("root a\na = a : (a | b)*\nb = b : empty\n")

    def test_chain(self):
        machine = Machine(self.GRAMMAR, rules("rule m a { each m ( a ) }"))
        run(machine, [("start", "a", ())] * 1000)
        self.assertEqual((machine.frames(), machine.depth()), (1000, 1000))
        with self.assertRaises(TooMany):
            machine.event(("start", "a", ()))

    def test_in_one_step(self):
        # The root has 1 frame, each inner a 3 times as many: 1 + 3 + .. + 243 are 364, with 729 they are 1093.
        program = rules("rule m a { each m ( a ) each d ( a ) each m ( a , b ) each m ( b ) each m ( b ) } "
                        "rule d a { each d ( a ) each d ( a ) each d ( a ) }")
        machine = Machine(self.GRAMMAR, program)
        run(machine, [("start", "a", ())] * 6)
        self.assertEqual(machine.frames(), 364)
        with self.assertRaises(TooMany):
            machine.event(("start", "a", ()))

    def test_exactly(self):
        # 941 frames of a and 59 of a b are 1000.
        program = rules("rule m a { each m ( a ) " + "each m ( b ) " * 59 + "}")
        for depth in (1, 940, 941, 942):
            machine = Machine(self.GRAMMAR, program)
            run(machine, [("start", "a", ())] * depth)
            if depth == 942:
                with self.assertRaises(TooMany):
                    machine.event(("start", "b", ()))
            else:
                machine.event(("start", "b", ()))
                self.assertEqual(machine.frames(), depth + 59)

    def test_ended_frames_do_not_count(self):
        program = rules('rule m a { each m ( b ) each m ( b ) each m ( a ) } rule m b { "b" }')
        machine = Machine(self.GRAMMAR, program)
        machine.event(("start", "a", ()))
        for _ in range(1500):
            machine.event(("start", "b", ()))
            self.assertEqual(machine.frames(), 3)
            machine.event(("end", "b"))
            self.assertEqual(machine.frames(), 1)
        self.assertEqual(machine.kept(), 1500)

    def test_not_document_comes_first(self):
        machine = Machine(self.GRAMMAR, rules("rule m a { each m ( a ) }"))
        run(machine, [("start", "a", ())] * 1000)
        with self.assertRaises(NotDocument):
            machine.event(("start", "c", ()))

    def test_run_document(self):
        program = rules("rule m a { each m ( a ) }")
        for depth, good in ((1000, True), (1001, False)):
            document = [("start", "a", ())] * depth + [("end", "a")] * depth
            if good:
                self.assertEqual(run_document(self.GRAMMAR, program, document), [])
            else:
                with self.assertRaises(TooMany):
                    run_document(self.GRAMMAR, program, document)


class NotDocumentTest(unittest.TestCase):
    def first_fault(self, grammar, program, events):
        machine = Machine(grammar, program)
        for number, event in enumerate(events):
            try:
                machine.event(event)
            except NotDocument as fault:
                self.assertEqual(fault.number, number)
                return number
        return -1 if machine.wholly() else len(events)

    def check(self, grammar, program, events):
        index, _ = validate(grammar, events)
        self.assertEqual(self.first_fault(grammar, program, events), index)
        if index >= 0:
            with self.assertRaises(NotDocument) as caught:
                run_document(grammar, program, events)
            self.assertEqual(caught.exception.number, index)
        else:
            self.assertEqual(run_document(grammar, program, events), plain_meaning(grammar, program, events))
        return index

    def test_spoiled_documents(self):
        chance = random.Random(44)
        told = {}
        for _ in range(60):
            grammar = Grammar(random_schema(chance, small_content, is_schema))
            program = random_program(chance, grammar)
            document = random_document(chance, grammar, chance.randrange(1, 12))
            if len(document) > 12:
                continue
            others = [("char", "q"), *document[:3], *document[-2:], ("start", "zz", ()), ("start", "e", (("zz", ""),))]
            for index in range(len(document) + 1):
                for many in (0, 1):
                    for new in [[], *[[other] for other in others], *[[event, event] for event in document[index:index + 1]]]:
                        spoiled = document[:index] + new + document[index + many:]
                        fault = self.check(grammar, program, spoiled)
                        told[fault == -1] = told.get(fault == -1, 0) + 1
                self.check(grammar, program, document[:index])
        self.assertGreater(min(told[True], told[False]), 200)

    def test_ends_too_early(self):
        grammar, program = grammar_of("root a\na = a : b, b\nb = b : empty\n"), rules("rule m a { each m ( b ) }")
        document = events_in("<a><b/><b/></a>")
        for many in range(len(document)):
            with self.assertRaises(NotDocument) as caught:
                run_document(grammar, program, document[:many])
            self.assertEqual(caught.exception.number, many)

    def test_more(self):
        grammar, program = grammar_of("root a\na = a : empty\n"), rules("rule m a { }")
        for more in (("char", "x"), ("start", "a", ()), ("end", "a")):
            with self.assertRaises(NotDocument) as caught:
                run_document(grammar, program, [*events_in("<a/>"), more])
            self.assertEqual(caught.exception.number, 2)


class ArgumentsTest(unittest.TestCase):
    def test_programs_that_do_not_fit(self):
        grammar = grammar_of("root a\na = a @x : b?\nb = b @y : chars\n")
        for good, bad in (("rule m b { }", "rule m z { }"), ("rule m a { each m ( b ) }", "rule m a { each m ( z ) }"),
                          ("rule m a { each m ( char ) }", "rule m a { each m ( chars ) }"), ("rule m a { @ x }", "rule m b { @ x }"),
                          ("rule m b { if @ y { } }", "rule m a { if @ y { } }"),
                          ("rule m a { make p ( q = @ x ) { } }", "rule m b { make p ( q = @ x ) { } }")):
            Machine(grammar, rules(good))
            with self.assertRaises(NotValid):
                Machine(grammar, rules(bad))
            with self.assertRaises(NotValid):
                run_document(grammar, rules(bad), events_in("<a/>"))

    def test_too_many_cases(self):
        grammar = grammar_of("root a\na = a " + " ".join("@x%d" % number for number in range(8)) + " : empty\n")
        program = rules("rule m a { " + " ".join("@ x%d" % number for number in range(8)) + " }")
        with self.assertRaises(TooMany):
            Machine(grammar, program)

    def test_nothing_is_changed(self):
        grammar = grammar_of("root a\na = a @x : (a | chars)*\n")
        program = rules('rule m a { each m ( a ) @ x each m ( char ) }')
        facts = Facts(grammar, program)
        document = events_in('<a x="1">p<a>q</a>r</a>')
        kept = copy.deepcopy((document, program))
        first = run(Machine(grammar, program, facts), document)
        self.assertEqual((document, program), kept)
        # Returned lists are not changed later, and machines with the same facts do not meet.
        one, other = Machine(grammar, program, facts), Machine(grammar, program, facts)
        told = [one.event(event) for event in document]
        for rows in told:
            rows.append("more")
        self.assertEqual(run(other, document), first)
        self.assertEqual(run(Machine(grammar, program), document), first)


if __name__ == "__main__":
    unittest.main()
