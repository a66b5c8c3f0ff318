"""[1], [2]: over all modules: nothing that is passed is changed, nothing that was returned is changed later, refusals."""

import ast
import copy
import importlib
import inspect
import os
import unittest

from hewstream import (alike, automata, blocking, bounds, chains, completions, cuttings, edits, errors, events, facts, guards,
                       held, insides, machine, outcheck, patches, plain, programs, pumps, regexes, schemas, skimmer,
                       skipping, syntax, tokens, upkeep, validator)
from shorthand import events_in, facts_of, grammar_of, inside_in, program_of
from test_language import PACKAGE, package_files, trees

SCHEMA = "root a\na = a @x : (b | c | chars)*\nb = b @y! : chars\nc = c : b?\n"
RULES = ('rule m a { make p ( q = @ x ) { each m ( b , c ) } } rule m b { make r { each m ( char ) } } rule m c { each n ( b ) } '
         'rule n b { make r { "x" } }')
OUTPUT = "root p\np = p @q : r*\nr = r : chars\n"
TEXT = '<a x="1"><b y="">pq</b><c><b y="2"/></c></a>'


class Calls:
    """Calls functions, and keeps what they were passed and what they returned, with copies."""

    def __init__(self):
        self.kept = []

    def __call__(self, function, *arguments):
        before = [plain_copy(value) for value in arguments]
        told = function(*arguments)
        self.kept.append((function, arguments, before, told, plain_copy(told)))
        return told

    def changed(self):
        """The functions of which something was changed."""
        return [function for function, arguments, before, told, copied in self.kept
                if plain_copy(told) != copied or [plain_copy(value) for value in arguments] != before]


def plain_copy(value):
    """A copy of a value of plain kinds, in the order of its dicts; None for other objects."""
    if isinstance(value, (list, tuple)):
        return type(value)([plain_copy(part) for part in value])
    if isinstance(value, dict):
        return [(plain_copy(key), plain_copy(part)) for key, part in value.items()]
    if isinstance(value, schemas.Grammar):
        return plain_copy(value.schema())
    if isinstance(value, facts.Facts):
        return plain_copy((value.grammar, value.program))
    return value if isinstance(value, (str, int)) or value is None else None


class ChangesTest(unittest.TestCase):
    def setUp(self):
        self.call = Calls()
        self.grammar, self.program, self.output = grammar_of(SCHEMA), program_of(RULES), grammar_of(OUTPUT)
        self.facts = facts.Facts(self.grammar, self.program)
        self.document = events_in(TEXT)

    def tearDown(self):
        self.assertEqual(self.call.changed(), [])
        self.assertGreater(len(self.call.kept), 5)

    def test_texts_and_documents(self):
        call, document = self.call, self.document
        reader = tokens.Tokens()
        for piece in (list(b"<a><b"), list(b">x"), list(b"</b></a>")):
            call(reader.feed, piece)
        call(tokens.read_text, [ord(sign) for sign in TEXT])
        tree = call(events.tree_of, document)
        for function in (events.is_document, events.document_events, events.print_output):
            call(function, document)
        call(events.events_of, tree)
        call(events.document_events, [("signs", "xy"), ("char", "z")])
        content = call(regexes.read_content, "a, (b | c)*")
        automaton = call(automata.automaton_of, content)
        for function in (automata.states_of, automata.parts, automata.inner_edges):
            call(function, automaton)
        call(automata.reads, automaton, ["a", "b"])
        schema = call(schemas.read_schema, SCHEMA)
        call(schemas.is_schema, schema)
        grammar = call(schemas.Grammar, schema)
        call(schemas.print_schema, schema)
        call(grammar.schema)["types"].pop("a")
        self.call.kept.pop()
        self.assertEqual(grammar.schema(), schema)
        grammar.types().append("z")
        self.assertEqual(grammar.types(), ["a", "b", "c"])

    def test_validators_and_completions(self):
        call = self.call
        checker = validator.Validator(self.grammar)
        for event in self.document[:4]:
            call(checker.take, event)
            for function in (checker.expected, checker.open_types, checker.states, checker.copied):
                call(function)
            call(completions.completion, self.grammar, checker)
        call(validator.validate, self.grammar, self.document)
        call(completions.weights, self.grammar)
        call(completions.least_element, self.grammar, "a")
        call(completions.least_to, self.grammar, "a", 0, [0])
        call(completions.events_of, self.grammar, ["b", "char"])

    def test_programs_and_machines(self):
        call = self.call
        call(programs.is_program, self.program)
        call(programs.fits, self.program, self.grammar)
        body = call(programs.body_of, self.program, "m", "a")
        call(programs.settled, body, (("x", "1"),))
        call(programs.values_named, body)
        call(syntax.parse_program, call(syntax.print_program, self.program))
        told = call(plain.plain_output, self.grammar, self.program, self.document)
        call(plain.without_places, told)
        call(machine.run_document, self.grammar, self.program, self.document)
        reader = machine.Machine(self.grammar, self.program)
        chain = chains.Chain([(self.grammar, self.program)])
        for event in self.document:
            call(reader.event, event)
            call(reader.shape)
            call(chain.event, event)
            call(held.resume, self.grammar, self.program, call(held.hold, reader))
        call(chains.plain_chain, [(self.grammar, self.program)], self.document)
        found = self.facts
        for function in (found.cases, found.round_edges):
            call(function, "a")
        call(found.lanes, "m", "a", ())
        call(found.giving_element, "m", "a")

    def test_decisions(self):
        call = self.call
        call(blocking.all_blocking, self.facts)
        call(blocking.steps_of, self.facts, blocking.first_blocking(self.facts))
        _, paper = call(pumps.decide, self.facts)
        call(pumps.judge_table, self.facts, paper)
        call(bounds.least_depths, self.facts)
        call(bounds.bound, self.facts, 2)
        call(outcheck.keys_of, self.facts, self.output)
        _, table = call(outcheck.check_output, self.facts, self.output)
        call(outcheck.judge_behaviours, self.facts, self.output, table)
        call(guards.least_costs, self.facts, self.output)
        call(guards.first_wrong, self.facts, self.output, self.document)
        guard = guards.Guard(self.facts, self.output)
        for event in self.document:
            call(guard.take, event)
            call(guard.completion)
        other = facts.Facts(self.grammar, program_of(RULES.replace("make r", "make s")))
        _, document = call(alike.compare, self.facts, other)
        call(alike.judge_difference, self.facts, other, document)
        _, meetings = call(alike.compare, self.facts, self.facts)
        call(alike.judge_meetings, self.facts, self.facts, meetings)

    def test_insides(self):
        call = self.call
        call(insides.least_inside, self.grammar, "a")
        call(insides.wide_cases, self.facts, "a")
        inside = self.document[1:-1]
        call(insides.is_valid_inside, self.grammar, "a", inside)
        call(insides.rows_of, self.facts, "a", (("x", "1"),), ("m", "n"), inside)
        _, told = call(skipping.decide_skip, self.facts, "a", (), ("m",))
        call(skipping.judge_differ, self.facts, "a", (), ("m",), told)
        _, table = call(skipping.decide_skip, self.facts, "c", (), ("d",))
        call(skipping.judge_same, self.facts, "c", (), ("d",), table)
        reader = skimmer.Skimmer(self.facts)
        for event in self.document:
            call(reader.event, event)

    def test_words_and_parts(self):
        call = self.call
        call(held.read_word, call(held.write_word, (5, "a<", None, (1, ("x",)))))
        data = [ord(sign) for sign in TEXT]
        left, right = call(cuttings.Part, self.grammar, data[:7]), call(cuttings.Part, self.grammar, data[7:])
        for part in (left, right):
            call(part.form)
            call(part.width)
        part = call(cuttings.join_parts, left, right)
        call(part.form)
        call(cuttings.tell_text, part)
        call(cuttings.run_text, self.grammar, data)

    def test_edits(self):
        call = self.call
        patch = [(1, 2, ["x"]), (3, 3, ["y", "z"])]
        items = list("abcd")
        call(patches.apply_patch, patch, items)
        call(patches.join_patches, patch, call(patches.undo_patch, patch, items), 4)
        call(patches.exchanges_of, self.document, [(2, 3, inside_in("z<q/>"))])
        edited = edits.Edited(self.grammar, self.program, self.document)
        second = (self.output, program_of("rule m p { each m ( r ) } rule m r { each m ( char ) }"))
        chain = upkeep.EditedChain([(self.grammar, self.program), second], self.document)
        for rows in ([((), 0, 1, [])], [((0,), 0, 1, inside_in('<b y="3"/>'))], [((), 0, 0, inside_in('x<b y="">z</b>'))], [((), 0, 0, inside_in("<a/>"))], []):
            for one in (edited, chain):
                call(one.edit, rows)
                call(one.output)
            for function in (edited.document, edited.node_keys, edited.settled):
                call(function)
        for _ in range(5):
            call(edited.back)
            call(chain.back)
        # What is done to a returned list is nothing to the object.
        kept = edited.output()
        edited.output().clear()
        edited.document().clear()
        self.assertEqual((edited.output(), edited.document()), (kept, self.document))


class RefusalsTest(unittest.TestCase):
    def test_direct_subclasses(self):
        found = []
        for name in package_files():
            module = importlib.import_module("hewstream." + name[:-3])
            for _, kind in inspect.getmembers(module, inspect.isclass):
                if issubclass(kind, BaseException) and kind.__module__.startswith("hewstream"):
                    found.append(kind)
        self.assertEqual({kind.__name__ for kind in found}, {"StreamError", "NotValid", "TooMany", "BadByte", "TooDeep", "NotDocument", "BadText"})
        for kind in set(found) - {errors.StreamError}:
            self.assertEqual(kind.__bases__, (errors.StreamError,))
        self.assertEqual(errors.StreamError.__bases__, (ValueError,))

    def test_what_is_raised(self):
        # The base itself is never raised, nor any error of Python's own.
        for name, tree in trees().items():
            for node in ast.walk(tree):
                if isinstance(node, ast.Raise):
                    self.assertIn(node.exc.func.id, ("NotValid", "TooMany", "BadByte", "TooDeep", "NotDocument", "BadText"), (name, node.lineno))

    def test_no_files_and_nothing_else(self):
        self.assertEqual([name for name in package_files() if not name.endswith(".py")], [])
        self.assertTrue(os.path.isfile(os.path.join(PACKAGE, "__init__.py")))


class FreshTest(unittest.TestCase):
    def test_facts_of_equal_grammars(self):
        # The same answers for the same arguments, made anew, whatever was asked before.
        def answers(asked):
            found = facts_of(SCHEMA, RULES)
            output = grammar_of(OUTPUT)
            rows = [lambda: guards.least_costs(found, output), lambda: outcheck.check_output(found, output), lambda: alike.compare(found, found),
                    lambda: skipping.decide_skip(found, "a", (), ("m", "n")), lambda: insides.wide_cases(found, "a"), lambda: pumps.decide(found)]
            told = {number: copy.deepcopy(rows[number]()) for number in asked}
            return [told[number] for number in range(len(rows))]

        self.assertEqual(answers(range(6)), answers([5, 3, 1, 0, 2, 4]))


if __name__ == "__main__":
    unittest.main()
