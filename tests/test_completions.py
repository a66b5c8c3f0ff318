"""[22] to [25]: least elements and shortest completions."""

import heapq
import random
import unittest

from hewstream.automata import states_of
from hewstream.completions import (MOST_EVENTS, completion, events_of, least_element, least_to, start_event, weights)
from hewstream.errors import NotValid, TooMany
from hewstream.schemas import Grammar, is_schema, read_schema
from hewstream.validator import Validator, validate
from schema_oracle import first_completion, next_stack, random_schema, small_content

LEAVES = ", ".join(["a"] * 23)
# The weights: a 2, m 48, t 50, r 1000.
HEAVY = "root r\na = a : empty\nm = m : " + LEAVES + "\nt = t : " + LEAVES + ", a\nr = r : m" + ", t" * 19 + "\n"
# The same with 1002.
HEAVIER = HEAVY.replace("m = m : a", "m = m : a, a")


def grammar_of(text):
    return Grammar(read_schema(text))


def taken(grammar, events):
    validator = Validator(grammar)
    for event in events:
        validator.take(event)
    return validator


def element(name, *inside, attributes=()):
    return [("start", name, attributes), *inside, ("end", name)]


def walk(chance, schema, grammar, many):
    """The events of a beginning of a document and the open elements behind it."""
    validator, events, stack = Validator(grammar), [], ()
    for _ in range(many):
        expected = validator.expected()
        if not expected:
            break
        event = chance.choice(expected)
        if event[0] == "char":
            event = ("char", "x")
        elif event[0] == "start":
            kinds = validator.open_types()
            kind = grammar.child_type(kinds[-1], event[1]) if kinds else grammar.root
            event = ("start", event[1], tuple((name, "v") for name, _ in schema["types"][kind][1]))
        stack = next_stack(schema, stack, event)
        events.append(event)
        if validator.take(event) != "":
            raise AssertionError(event)
    return validator, events, stack


def least_row(grammar, kind, state, targets):
    """The first least row, by a search through all rows in the order of their weights."""
    known = weights(grammar)
    queue, met = [(0, (), (), state)], set()
    while queue:
        cost, names, row, at = heapq.heappop(queue)
        if at in targets:
            return list(row)
        if at in met:
            continue
        met.add(at)
        for begin, symbol, end in grammar.automaton(kind)[1]:
            if begin == at:
                name = (0, "") if symbol == "char" else (1, grammar.name_of(symbol))
                heapq.heappush(queue, (cost + known.get(symbol, 1), (*names, name), (*row, symbol), end))
    return None


class WeightsTest(unittest.TestCase):
    def test_by_hand(self):
        for text, expected in (
                ("root a\na = a : empty\n", {"a": 2}),
                ("root a\na = a : chars+\n", {"a": 2}),
                ("root a\na = a : b, chars, b\nb = b : c?\nc = c : b\n", {"a": 6, "b": 2, "c": 4}),
                ("root a\na = a : a?, b\nb = b : c | d, d\nc = c : d, d, d\nd = d : empty\n",
                 {"a": 8, "b": 6, "c": 8, "d": 2}),
                ("root a\na = a : b | c\nb = b : (c, c)+ | d, d, d, d, d\nc = c : d+\nd = d : a*\n",
                 {"a": 6, "b": 10, "c": 4, "d": 2}),
                (HEAVY, {"a": 2, "m": 48, "t": 50, "r": 1000})):
            self.assertEqual(weights(grammar_of(text)), expected, text)

    def test_great(self):
        lines = ["t%d = x : t%d, t%d, t%d" % (number, number + 1, number + 1, number + 1) for number in range(60)]
        grammar = grammar_of("root t0\n" + "\n".join(lines) + "\nt60 = x : empty\n")
        expected = 2
        for number in range(60, -1, -1):
            self.assertEqual(weights(grammar)["t%d" % number], expected)
            expected = 3 * expected + 2

    def test_long_chain(self):
        lines = ["t%d = x : t%d | t%d, t400" % (number, number + 1, number + 1) for number in range(400)]
        grammar = grammar_of("root t0\n" + "\n".join(lines) + "\nt400 = y : empty\n")
        self.assertEqual(weights(grammar)["t0"], 802)
        self.assertEqual(len(least_element(grammar, "t0")), 802)

    def test_random(self):
        chance = random.Random(12)
        for _ in range(150):
            schema = random_schema(chance, small_content, is_schema)
            grammar = Grammar(schema)
            for kind, weight in weights(grammar).items():
                self.assertEqual(len(least_element(grammar, kind)), weight)
            self.assertEqual(sorted(weights(grammar)), grammar.types())


class ElementsTest(unittest.TestCase):
    def test_start_event(self):
        grammar = grammar_of("root a\na = e @y! @x @z! : b?\nb = f @x : chars\n")
        self.assertEqual(start_event(grammar, "a"), ("start", "e", (("y", ""), ("z", ""))))
        self.assertEqual(start_event(grammar, "b"), ("start", "f", ()))

    def test_by_hand(self):
        grammar = grammar_of("root a\na = e @y! @x @z! : b, chars, c\nb = f @x : chars\nc = g @w! : c | d\n"
                             "d = h : empty\n")
        attributes = (("y", ""), ("z", ""))
        inside = element("f") + element("g", *element("h"), attributes=(("w", ""),))
        self.assertEqual(least_element(grammar, "a"), element("e", *inside, attributes=attributes))
        self.assertEqual(least_element(grammar, "b"), element("f"))

    def test_several_are_least(self):
        # Types are compared by the names of their elements.
        grammar = grammar_of("root a\na = a : b | c\nb = z : empty\nc = y : empty\n")
        self.assertEqual(least_element(grammar, "a"), element("a", *element("y")))
        # The element that ends earlier comes first, also if its name is not the first one.
        grammar = grammar_of("root a\na = a : b, c | c, b | d\nb = x : empty\nc = y : empty\nd = z : b\n")
        self.assertEqual(least_element(grammar, "a"), element("a", *element("x"), *element("y")))
        grammar = grammar_of("root a\na = a : b, b | d\nb = x : empty\nd = w : e\ne = v : empty\n")
        self.assertEqual(least_element(grammar, "a"), element("a", *element("w", *element("v"))))
        grammar = grammar_of("root a\na = a : (b | d), (b | d)\nb = x : c\nd = w : c, c\nc = c : empty\n")
        self.assertEqual(least_element(grammar, "a"), element("a", *element("x", *element("c")) * 2))

    def test_recursive_types(self):
        grammar = grammar_of("root a\na = a : b | a, a\nb = b : (a, a)* | b\n")
        self.assertEqual(least_element(grammar, "a"), element("a", *element("b")))
        grammar = grammar_of("root a\na = a : b, b\nb = b : c | a\nc = c : a?\n")
        self.assertEqual(least_element(grammar, "a"), element("a", *element("b", *element("c")) * 2))

    def test_random(self):
        chance = random.Random(9)
        looked = 0
        for _ in range(300):
            schema = random_schema(chance, small_content, is_schema)
            grammar = Grammar(schema)
            known = weights(grammar)
            for kind in grammar.types():
                if known[kind] > 12:
                    continue
                looked += 1
                rest = first_completion(dict(schema, root=kind), ((kind, schema["types"][kind][2]),))
                found = least_element(grammar, kind)
                self.assertEqual(found, [start_event(grammar, kind), *rest], (schema, kind))
                self.assertEqual(len(found), known[kind])
        self.assertGreater(looked, 300)

    def test_are_valid(self):
        for text in (HEAVY, "root a\na = e @y! : b, c\nb = f @x! : c | b\nc = g : chars\n"):
            grammar = grammar_of(text)
            self.assertEqual(validate(grammar, least_element(grammar, grammar.root)), (-1, ""))


class RowsTest(unittest.TestCase):
    GRAMMAR = "root r\nr = r : a, (b | c, chars)*, (d | b, b), chars\na = e : empty\nb = h : empty\nc = g : a, a\n" \
        "d = f : a\n"

    def test_least_to(self):
        grammar = grammar_of("root r\nr = r : b, chars, (a | c), chars, (c, c)?\na = z : empty\nb = y : empty\n"
                             "c = x : empty\n")
        # 0 -b- 1 (signs) -a, c- 2 (signs) -c- 3 -c- 4
        self.assertEqual(grammar.automaton("r"), ((2, 4), ((0, "b", 1), (1, "a", 2), (1, "c", 2), (1, "char", 1),
                                                           (2, "c", 3), (2, "char", 2), (3, "c", 4))))
        for state, targets, row in ((0, [2], ["b", "c"]), (0, [0], []), (0, [4, 2], ["b", "c"]), (1, [2, 4], ["c"]),
                                    (2, [2, 4], []), (3, [2, 4], ["c"]), (4, [4], []), (1, [3], ["c", "c"]),
                                    (4, [3], None), (2, [0, 1], None), (0, [], None), (1, [1], [])):
            self.assertEqual(least_to(grammar, "r", state, targets), row, (state, targets))

    def test_signs_are_light(self):
        grammar = grammar_of("root r\nr = r : chars, a | b\na = z : empty\nb = a : a\n")
        # 0 -a, b- 1, 0 -char- 2 (signs) -a- 1
        self.assertEqual(least_to(grammar, "r", 0, [1]), ["a"])
        self.assertEqual(least_to(grammar, "r", 0, [2]), ["char"])
        self.assertEqual(least_to(grammar, "r", 0, [2, 1]), ["char"])
        self.assertEqual(least_to(grammar, "r", 2, [1]), ["a"])

    def test_sign_before_types(self):
        # Behind "d" alone a y can come; behind "d char" and "char d", which weigh the same, only signs and x.
        grammar = grammar_of("root r\nr = r : (chars, d, chars, x) | (d, (chars, x | y))\nd = a : empty\n"
                             "x = x : empty\ny = y : empty\n")
        after_sign = grammar.step("r", 0, "char")
        target = grammar.step("r", after_sign, "d")
        self.assertEqual(grammar.step("r", grammar.step("r", 0, "d"), "char"), target)
        self.assertEqual(least_to(grammar, "r", 0, [target]), ["char", "d"])

    def test_types_by_the_names_of_elements(self):
        grammar = grammar_of("root r\nr = r : a, b | b, a | c, d | d, c\na = z : empty\nb = y : empty\n"
                             "c = x : empty\nd = y1 : empty\n")
        self.assertEqual(least_to(grammar, "r", 0, list(grammar.automaton("r")[0])), ["c", "d"])
        targets = [grammar.step("r", grammar.step("r", 0, first), second) for first, second in ("ab", "ba")]
        self.assertEqual(targets[0], targets[1])

    def test_random_rows(self):
        chance = random.Random(10)
        for _ in range(200):
            schema = random_schema(chance, small_content, is_schema)
            grammar = Grammar(schema)
            for kind in grammar.types():
                many = states_of(grammar.automaton(kind))
                for state in range(many):
                    targets = [target for target in range(many) if chance.random() < 0.4]
                    self.assertEqual(least_to(grammar, kind, state, targets), least_row(grammar, kind, state, targets))

    def test_targets_are_not_changed(self):
        grammar = grammar_of(self.GRAMMAR)
        targets = [1, 0]
        least_to(grammar, "r", 0, targets)
        self.assertEqual(targets, [1, 0])

    def test_events_of(self):
        grammar = grammar_of(self.GRAMMAR)
        a, b = element("e"), element("h")
        self.assertEqual(events_of(grammar, []), [])
        self.assertEqual(events_of(grammar, ["char"]), [("char", "a")])
        row = ["a", "char", "c", "char", "char", "d", "b"]
        expected = [*a, ("char", "a"), *element("g", *a, *a), ("char", "a"), ("char", "a"), *element("f", *a), *b]
        self.assertEqual(events_of(grammar, row), expected)
        self.assertEqual(events_of(grammar, tuple(row)), expected)
        self.assertEqual(len(row), 7)

    def test_rows_of_the_grammar(self):
        grammar = grammar_of(self.GRAMMAR)
        self.assertEqual(least_element(grammar, "r"), element("r", *element("e"), *element("f", *element("e"))))


class CompletionTest(unittest.TestCase):
    def test_by_hand(self):
        grammar = grammar_of("root r\nr = r @k! : a, b, chars\na = e : (b | chars), b*\nb = f @x! @y : chars\n")
        b = element("f", attributes=(("x", ""),))
        start = ("start", "r", (("k", "1"),))
        for events, rest in (
                ([], element("r", *element("e"), *b, attributes=(("k", ""),))),
                ([start], [*element("e"), *b, ("end", "r")]),
                ([start, ("start", "e", ())], [("end", "e"), *b, ("end", "r")]),
                ([start, ("start", "e", ()), ("char", "z")], [("end", "e"), *b, ("end", "r")]),
                ([start, ("start", "e", ()), ("start", "f", (("x", ""), ("y", "")))],
                 [("end", "f"), ("end", "e"), *b, ("end", "r")]),
                ([start, *element("e")], [*b, ("end", "r")]),
                ([start, *element("e"), *b], [("end", "r")]),
                ([start, *element("e"), *b, ("char", "z")], [("end", "r")]),
                ([start, *element("e"), *b, ("end", "r")], [])):
            validator = taken(grammar, events)
            self.assertEqual(completion(grammar, validator), rest)
            self.assertEqual(validate(grammar, events + rest), (-1, ""))

    def test_faults(self):
        grammar = grammar_of("root r\nr = r : a?\na = e : chars\n")
        for events in ([("char", "a")], [("start", "e", ())], [("start", "r", ()), ("start", "x", ())],
                       [("start", "r", ()), ("char", "a")], [("start", "r", ()), ("end", "e")],
                       [("start", "r", (("x", ""),))], [("start", "r", ()), ("end", "r"), ("end", "r")],
                       [("start", "r", ()), ("end", "r"), ("char", "a")]):
            validator = taken(grammar, events)
            self.assertNotEqual(validator.fault(), "")
            with self.assertRaises(NotValid):
                completion(grammar, validator)

    def test_validator_stays(self):
        grammar = grammar_of("root r\nr = r : a, a\na = e : chars\n")
        validator = taken(grammar, [("start", "r", ()), ("start", "e", ())])
        completion(grammar, validator)
        self.assertEqual((validator.open_types(), validator.states()), (["r", "a"], [1, 0]))
        self.assertEqual(validator.fault(), "")
        for event in completion(grammar, validator):
            self.assertEqual(validator.take(event), "")
        self.assertIs(validator.is_complete(), True)

    def test_random(self):
        chance = random.Random(13)
        looked = 0
        for _ in range(250):
            schema = random_schema(chance, small_content, is_schema)
            grammar = Grammar(schema)
            if max(weights(grammar).values()) > 12:
                continue
            for _ in range(4):
                validator, events, stack = walk(chance, schema, grammar, chance.randrange(8))
                rest = completion(grammar, validator)
                self.assertEqual(validate(grammar, events + rest), (-1, ""))
                if len(rest) > 12:
                    continue
                looked += 1
                expected = [] if validator.is_complete() else first_completion(schema, stack)
                self.assertEqual(rest, expected, (schema, events))
        self.assertGreater(looked, 400)


class LimitsTest(unittest.TestCase):
    def refused(self, function, *arguments):
        with self.assertRaises(TooMany):
            function(*arguments)

    def test_elements(self):
        self.assertEqual(MOST_EVENTS, 1000)
        grammar = grammar_of(HEAVY)
        self.assertEqual(len(least_element(grammar, "r")), 1000)
        grammar = grammar_of(HEAVIER)
        self.assertEqual(weights(grammar)["r"], 1002)
        self.refused(least_element, grammar, "r")
        self.assertEqual(len(least_element(grammar, "t")), 50)
        grammar = grammar_of("root s\ns = s : r\n" + HEAVY[7:])
        self.refused(least_element, grammar, "s")

    def test_rows(self):
        grammar = grammar_of(HEAVY)
        self.assertEqual(events_of(grammar, ["char"] * 1000), [("char", "a")] * 1000)
        self.refused(events_of, grammar, ["char"] * 1001)
        self.assertEqual(len(events_of(grammar, ["r"])), 1000)
        self.refused(events_of, grammar, ["r", "char"])
        self.assertEqual(len(events_of(grammar, ["t"] * 20)), 1000)
        self.refused(events_of, grammar, ["char"] + ["t"] * 20)
        self.assertEqual(len(events_of(grammar, ["a", "char"] * 333 + ["char"])), 1000)
        self.refused(events_of, grammar, ("a", "char", "char") * 250 + ("char",))

    def test_completions(self):
        text = "root q\nq = q : p\np = p : s\ns = s : m" + ", t" * 18 + ", u\n" + HEAVY[7:HEAVY.index("r = r")]
        grammar = grammar_of(text + "u = u : " + LEAVES + "\n")
        self.assertEqual(weights(grammar)["s"], 998)
        start = [("start", name, ()) for name in "qps"]
        self.assertEqual(len(completion(grammar, taken(grammar, start))), 999)
        self.assertEqual(len(completion(grammar, taken(grammar, start[:2]))), 1000)
        self.refused(completion, grammar, taken(grammar, start[:1]))
        self.refused(completion, grammar, taken(grammar, []))
        grammar = grammar_of(HEAVY)
        self.assertEqual(len(completion(grammar, taken(grammar, []))), 1000)
        self.refused(completion, grammar_of(HEAVIER), taken(grammar_of(HEAVIER), []))

    def test_many_open(self):
        grammar = grammar_of("root a\na = a : a?\n")
        start = [("start", "a", ())]
        self.assertEqual(completion(grammar, taken(grammar, start * 1000)), [("end", "a")] * 1000)
        self.refused(completion, grammar, taken(grammar, start * 1001))

    def test_great_weights(self):
        lines = ["t%d = x : t%d, t%d" % (number, number + 1, number + 1) for number in range(40)]
        grammar = grammar_of("root t0\n" + "\n".join(lines) + "\nt40 = x : empty\n")
        self.refused(least_element, grammar, "t0")
        self.refused(events_of, grammar, ["t30"])
        self.refused(completion, grammar, taken(grammar, [("start", "x", ())]))
        self.assertEqual(least_to(grammar, "t0", 0, [2]), ["t1", "t1"])
        self.assertEqual(len(least_element(grammar, "t33")), 510)


if __name__ == "__main__":
    unittest.main()
