"""[47] to [51]: blocking states, against the frames that documents lead to."""

import random
import unittest

from frame_oracle import Moment
from hewstream.blocking import MOST_BLOCKING, after_edge, all_blocking, first_blocking, steps_of
from hewstream.completions import events_of, least_to
from hewstream.errors import TooMany
from hewstream.facts import Facts
from hewstream.schemas import Grammar, is_schema, read_schema
from hewstream.syntax import parse_program
from program_oracle import STRINGS, deepest, random_document, random_program
from schema_oracle import random_schema, small_content


def facts_of(schema, rules, modes="mode k keeps mode m keeps mode n keeps"):
    return Facts(Grammar(read_schema(schema)), parse_program("start m " + modes + " " + rules))


def seen_state(facts, events):
    """What the frames of the innermost open element tell: (type, blocked, free, all pairs)."""
    moment = Moment(facts, events)
    kind = moment.shape[0][-1][0]
    rows = [(frame.mode, blocked) for frame, blocked in moment.frames if frame.element.place == last_open(events)]
    blocked = sorted({mode for mode, behind in rows if behind})
    free = sorted({mode for mode, behind in rows} - set(blocked))
    pairs = {(rows[one][0], rows[other][0]) for other in range(len(rows)) for one in range(other) if rows[other][0] in free}
    return kind, tuple(blocked), tuple(free), tuple(sorted(pairs)), rows


def last_open(events):
    """The number of the start of the innermost open element."""
    around = []
    for number, event in enumerate(events):
        if event[0] == "start":
            around.append(number)
        elif event[0] == "end":
            around.pop()
    return around[-1]


class StatesTest(unittest.TestCase):
    SCHEMA = "root a\na = a @x : b*, c?\nb = b : chars, d?\nc = c : empty\nd = d : b?\n"

    def test_constant(self):
        self.assertEqual(MOST_BLOCKING, 3000)

    def test_first(self):
        self.assertEqual(first_blocking(facts_of(self.SCHEMA, "")), ("a", (), ("m",), ()))
        self.assertEqual(first_blocking(facts_of("root b\nb = b : b?\n", "")), ("b", (), ("m",), ()))

    def check(self, rules, edge, expected, state=("a", (), ("m",), ()), attributes=(), schema=None):
        facts = facts_of(schema or self.SCHEMA, rules)
        self.assertIn(edge, facts.grammar.automaton(state[0])[1])
        self.assertEqual(after_edge(facts, state, attributes, edge), expected)

    def test_lanes_of_one_rule(self):
        texts = ' rule m b { "m" } rule k b { "k" } rule n b { "n" } rule m c { "c" }'
        by_b = (0, "b", 0)
        self.check("rule m a { each m ( b ) }" + texts, by_b, ("b", (), ("m",), ()))
        self.check("rule m a { each m ( b ) each k ( b ) }" + texts, by_b, ("b", ("k",), ("m",), ()))
        self.check("rule m a { each k ( b ) each m ( b ) each k ( b ) }" + texts, by_b, ("b", ("k", "m"), (), ()))
        self.check("rule m a { each m ( c ) each k ( b ) }" + texts, by_b, ("b", ("k",), (), ()))
        self.check("rule m a { each k ( c ) each k ( b ) each m ( b ) }" + texts, by_b, ("b", ("m",), ("k",), ()))
        # A lane that takes nothing more, or what gives nothing, blocks nothing.
        self.check("rule m a { each k ( b ) each m ( d , char ) each n ( c ) }", by_b, ("b", (), ("k",), ()))

    def test_asked_at_the_next_state(self):
        texts = ' rule m b { "m" } rule k b { "k" } rule m c { "m" } rule k c { "k" }'
        self.check("rule m a { each m ( b ) each k ( c ) }" + texts, (0, "c", 1), ("c", (), ("k",), ()))
        self.check("rule m a { each m ( c ) each k ( c ) }" + texts, (0, "c", 1), ("c", (), ("k", "m"), (("m", "k"),)))
        self.check("rule m a { each k ( c ) each m ( c ) each k ( c ) }" + texts, (0, "c", 1),
                   ("c", (), ("k", "m"), (("k", "k"), ("k", "m"), ("m", "k"))))

    def test_blocked_modes(self):
        # What comes into a rule of a blocked mode is blocked, whatever is live.
        schema = "root a\na = a : b?\nb = b : d, c?\nc = c : empty\nd = d : empty\n"
        state = ("b", ("k",), ("m",), ())
        rules = 'rule m b { each m ( d ) each k ( d ) } rule k b { each n ( d ) each m ( c ) } rule m c { "c" }'
        self.check(rules, (0, "d", 1), ("d", ("n",), ("k", "m"), (("m", "k"),)), state, (), schema)
        # The same mode at a blocked and at another place: it is blocked, and its free frames stand before those of m.
        rules = 'rule m b { each n ( d ) each m ( d ) } rule k b { each n ( d ) }'
        self.check(rules, (0, "d", 1), ("d", ("n",), ("m",), (("n", "m"),)), state, (), schema)
        # Lanes of a blocked mode before a free one count as well.
        self.check('rule m b { each m ( d ) } rule k b { each n ( d ) each m ( c ) } rule m c { "c" }', (0, "d", 1),
                   ("d", ("m", "n"), (), ()), ("b", ("k",), ("m",), (("k", "m"),)), (), schema)
        self.check('rule m b { each m ( d ) } rule k b { each n ( d ) }', (0, "d", 1),
                   ("d", ("n",), ("m",), (("n", "m"),)), ("b", ("k",), ("m",), (("k", "m"),)), (), schema)

    def test_pairs_between_rules(self):
        # Frames of m before one of k: what is live in the rule of m blocks what comes into that of k.
        schema = "root a\na = a : b?\nb = b : (c | d)*\nc = c : empty\nd = d : empty\n"
        state = ("b", (), ("k", "m"), (("m", "k"),))
        texts = ' rule m c { "c" } rule k c { "c" } rule m d { "d" } rule n c { "n" }'
        by_c = (0, "c", 0)
        self.check("rule m b { each m ( c ) } rule k b { each k ( c ) }" + texts, by_c,
                   ("c", ("k",), ("m",), ()), state, (), schema)
        self.check("rule m b { each m ( d ) } rule k b { each k ( c ) }" + texts, by_c, ("c", ("k",), (), ()), state, (), schema)
        self.check("rule m b { each m ( c ) each m ( d ) } rule k b { each k ( c ) each k ( c ) }" + texts, by_c,
                   ("c", ("k",), ("m",), ()), state, (), schema)
        schema = schema.replace("(c | d)*", "c?")
        by_c = (0, "c", 1)
        self.check("rule m b { each m ( c ) each n ( c ) } rule k b { each k ( c ) }" + texts.replace(' rule m d { "d" }', ""),
                   by_c, ("c", (), ("k", "m", "n"), (("m", "k"), ("m", "n"), ("n", "k"))), state, (),
                   schema.replace("b?", "b?, d?"))

    def test_no_step(self):
        self.check("rule m a { each m ( c ) }", (0, "b", 0), None)
        self.check("rule k a { each m ( b ) }", (0, "b", 0), None)
        self.check("rule m a { each m ( char , b ) } rule m b { each m ( char ) }", (0, "char", 0), None, ("b", (), ("m",), ()))
        self.check("", (0, "b", 0), None)

    def test_cases(self):
        rules = 'rule m a { if @ x = "1" { each k ( b ) } else { each m ( b ) } } rule m b { "m" } rule k b { "k" }'
        for attributes, mode in (((("x", "1"),), "k"), ((), "m"), ((("x", "q"),), "m")):
            self.check(rules, (0, "b", 0), ("b", (), (mode,), ()), ("a", (), ("m",), ()), attributes)
        facts = facts_of(self.SCHEMA, rules)
        self.assertEqual(steps_of(facts, first_blocking(facts)), [
            ((), (0, "b", 0), ("b", (), ("m",), ())), ((("x", "1"),), (0, "b", 0), ("b", (), ("k",), ())),
            ((("x", ""),), (0, "b", 0), ("b", (), ("m",), ())), ((("x", "a"),), (0, "b", 0), ("b", (), ("m",), ()))])


class RandomTest(unittest.TestCase):
    def test_steps_against_frames(self):
        """Edge by edge from the root on: the child's state is what its frames tell."""
        chance = random.Random(47)
        seen = {}
        for _ in range(1500):
            grammar = Grammar(random_schema(chance, small_content, is_schema))
            facts = Facts(grammar, random_program(chance, grammar))
            state = first_blocking(facts)
            attributes = attributes_of(chance, grammar, grammar.root)
            events = [("start", grammar.name_of(grammar.root), attributes)]
            mixed = False
            for _ in range(chance.randrange(1, 7)):
                edges = grammar.automaton(state[0])[1]
                if not edges:
                    break
                edge = chance.choice(edges)
                after = after_edge(facts, state, attributes, edge)
                if edge[1] == "char":
                    self.assertIsNone(after)
                    break
                events = events + events_of(grammar, least_to(grammar, state[0], 0, [edge[0]]))
                attributes = attributes_of(chance, grammar, edge[1])
                events.append(("start", grammar.name_of(edge[1]), attributes))
                if len(Moment(facts, events).frames) > 60:
                    break
                kind, blocked, free, pairs, rows = seen_state(facts, events)
                if not rows:
                    self.assertIsNone(after)
                    break
                self.assertEqual(after[:3], (kind, blocked, free), (grammar.schema(), facts.program, events))
                # Of modes with blocked and free frames, those free frames are told that stand before free modes.
                self.assertEqual(after[3], pairs)
                mixed = mixed or any((mode, True) in rows and (mode, False) in rows for mode in blocked)
                key = len(blocked) > 0, len(free) > 0, len(pairs) > 0
                seen[key] = seen.get(key, 0) + 1
                seen["mixed"] = seen.get("mixed", 0) + mixed
                state = after
        self.assertEqual(len(seen), 6, seen)
        self.assertGreater(min(seen.values()), 3, seen)

    def test_documents_lead_to_states(self):
        chance = random.Random(51)
        met = 0
        for _ in range(1000):
            grammar = Grammar(random_schema(chance, small_content, is_schema))
            facts = Facts(grammar, random_program(chance, grammar))
            document = random_document(chance, grammar, chance.randrange(1, 20))
            if len(document) > 30 or deepest(document) > 6:
                continue
            found = all_blocking(facts)
            for number, event in enumerate(document):
                if event[0] != "start":
                    continue
                kind, blocked, free, pairs, rows = seen_state(facts, document[:number + 1])
                if rows:
                    self.assertIn((kind, blocked, free, pairs), found)
                    met += blocked != ()
        self.assertGreater(met, 100)

    def test_all_level_by_level(self):
        chance = random.Random(52)
        most = 0
        for _ in range(300):
            grammar = Grammar(random_schema(chance, small_content, is_schema))
            facts = Facts(grammar, random_program(chance, grammar))
            found = all_blocking(facts)
            first = first_blocking(facts)
            expected = {first: None}
            level = [first]
            while level:
                later = []
                for state in level:
                    steps = []
                    for attributes in facts.cases(state[0]):
                        for edge in grammar.automaton(state[0])[1]:
                            child = after_edge(facts, state, attributes, edge)
                            if child is not None:
                                steps.append((attributes, edge, child))
                                if child not in expected:
                                    expected[child] = (state, attributes, edge)
                                    later.append(child)
                    self.assertEqual(steps_of(facts, state), steps)
                level = later
            self.assertEqual(found, expected)
            self.assertEqual(list(found), list(expected))
            most = max(most, len(found))
        self.assertGreater(most, 15)


def attributes_of(chance, grammar, kind):
    return tuple((name, chance.choice(STRINGS)) for name, needed in grammar.attributes_of(kind)
                 if needed or chance.random() < 0.5)


class MostTest(unittest.TestCase):
    def test_exactly(self):
        for many in (1, 10, 3000, 3001):
            # Types one within the other, so many of them: as many states.
            types = {f"t{number}": ("t", (), ("type", f"t{number + 1}")) for number in range(many - 1)}
            types[f"t{many - 1}"] = ("t", (), ("chars",))
            rules = {("m", f"t{number}"): (("each", "m", (f"t{number + 1}",)),) for number in range(many - 1)}
            facts = Facts(Grammar({"root": "t0", "types": types}), {"start": "m", "modes": {"m": True}, "rules": rules})
            if many <= 3000:
                self.assertEqual(list(all_blocking(facts)), [(f"t{number}", (), ("m",), ()) for number in range(many)])
            else:
                with self.assertRaises(TooMany):
                    all_blocking(facts)


if __name__ == "__main__":
    unittest.main()
