"""[13] to [15]: the automata of contents."""

import itertools
import random
import unittest

from content_oracle import reader_of, types_in
from hewstream.automata import (MOST_SETS, MOST_STATES, automaton_of, inner_edges, is_final, next_state, parts, reads,
                                states_of, symbols_at)
from hewstream.errors import TooMany
from hewstream.regexes import read_content
from samples import random_content

# Contents with their automata.
AUTOMATA = [
    ("empty", ((0,), ())),
    ("chars", ((0,), ((0, "char", 0),))),
    ("a", ((1,), ((0, "a", 1),))),
    ("a+", ((1,), ((0, "a", 1), (1, "a", 1)))),
    ("a*", ((0,), ((0, "a", 0),))),
    ("a?", ((0, 1), ((0, "a", 1),))),
    ("a, b", ((2,), ((0, "a", 1), (1, "b", 2)))),
    ("a | b", ((1,), ((0, "a", 1), (0, "b", 1)))),
    ("a, b | b, a", ((3,), ((0, "a", 1), (0, "b", 2), (1, "b", 3), (2, "a", 3)))),
    ("b, a | c, c", ((3,), ((0, "b", 1), (0, "c", 2), (1, "a", 3), (2, "c", 3)))),
    ("(a, b)*", ((0,), ((0, "a", 1), (1, "b", 0)))),
    ("(a, b)+", ((2,), ((0, "a", 1), (1, "b", 2), (2, "a", 1)))),
    ("a, (b | c)*, chars", ((1, 2), ((0, "a", 1), (1, "b", 1), (1, "c", 1), (1, "char", 2), (2, "char", 2)))),
    ("chars, a, chars", ((1,), ((0, "a", 1), (0, "char", 0), (1, "char", 1)))),
    ("d, chars | ca | b", ((1, 2), ((0, "b", 1), (0, "ca", 1), (0, "d", 2), (2, "char", 2)))),
    ("(a | b)*, a, (a | b)", ((2, 3), ((0, "a", 1), (0, "b", 0), (1, "a", 2), (1, "b", 3), (2, "a", 2), (2, "b", 3),
                                       (3, "a", 1), (3, "b", 0)))),
    # The state behind the sign is met between those behind b and d.
    ("b, z1 | chars, (z2 | chars, z2) | d, z3",
     ((4,), ((0, "b", 1), (0, "char", 2), (0, "d", 3), (0, "z2", 4), (1, "z1", 4), (2, "char", 2), (2, "z2", 4),
             (3, "z3", 4)))),
]

# Contents with the same rows.
ALIKE = [
    ["a*", "(a*)*", "(a+)?", "a*, a*", "(a | a)*", "a* | empty", "(a?)*", "(a?)+", "empty | a, a*", "a?, a*", "a**"],
    ["a+", "a, a*", "a*, a", "a+ | a", "(a+)+", "a | a, a+", "a, a?, a*", "a++"],
    ["a?", "a | empty", "empty | a", "a??", "(a, empty)?", "empty, a?"],
    ["chars", "chars*", "chars+", "chars?", "chars, chars", "empty | chars", "chars, chars*", "chars | chars, chars"],
    ["empty", "empty*", "empty, empty", "empty?", "empty | empty", "(empty+, empty)*"],
    ["a, (b | c)", "a, b | a, c", "a, c | a, b, empty"],
    ["(a | b)*", "(a*, b*)*", "(b* | a)*", "(a, b | a | b)*", "(a* | b)+", "(a | b?)+"],
    ["(a | b)*, chars", "(a* | b)*, chars, chars", "(b, a? | a)*, (chars | empty)"],
    ["a, a?, a?", "a | a, a | a, a, a", "a?, a, a?"],
]

# Automata that are written by hand: also ones that are not least.
LOOPS = ((3,), ((0, "a", 1), (1, "a", 2), (1, "b", 3), (2, "a", 1), (2, "b", 2), (3, "a", 4), (4, "a", 5),
               (5, "a", 3), (5, "b", 6)))


def all_rows(symbols, length):
    return [row for many in range(length + 1) for row in itertools.product(symbols, repeat=many)]


def is_met_in_order(automaton):
    met = [0]
    for state in range(states_of(automaton)):
        if state >= len(met):
            return False
        for begin, _, end in sorted(automaton[1]):
            if begin == state and end not in met:
                met.append(end)
    return met == list(range(len(met)))


def can_be_ended(automaton):
    good = set(automaton[0])
    for _ in range(states_of(automaton)):
        good |= {begin for begin, _, end in automaton[1] if end in good}
    return len(good) == states_of(automaton)


def is_least(automaton):
    """True if each two states are told apart by some row; None is the state without rows."""
    finals, edges = automaton
    many = states_of(automaton)
    symbols = {symbol for _, symbol, _ in edges}
    step = {(begin, symbol): end for begin, symbol, end in edges}
    states = [None, *range(many)]
    apart = {(one, other) for one in states for other in states if (one in finals) != (other in finals)}
    for _ in states:
        apart |= {(one, other) for one in states for other in states for symbol in symbols
                  if (step.get((one, symbol)), step.get((other, symbol))) in apart}
    return all((one, other) in apart for one in states for other in states if one != other)


class FormTest(unittest.TestCase):
    def check(self, content):
        automaton = automaton_of(content)
        finals, edges = automaton
        self.assertIs(type(automaton), tuple)
        self.assertIs(type(finals), tuple)
        self.assertIs(type(edges), tuple)
        self.assertEqual(list(finals), sorted(set(finals)))
        self.assertEqual(list(edges), sorted(set(edges)))
        self.assertEqual(len({edge[:2] for edge in edges}), len(edges))
        self.assertTrue(is_met_in_order(automaton))
        self.assertTrue(can_be_ended(automaton))
        self.assertTrue(is_least(automaton))
        symbols = sorted(types_in(content) | {"char"})[:4]
        reader = reader_of(content, types_in(content))
        for row in all_rows(symbols, 4):
            self.assertIs(reads(automaton, row), reader(row), row)
            self.assertIs(reads(automaton, list(row)), reader(row), row)
        return automaton

    def test_constants(self):
        self.assertEqual((MOST_STATES, MOST_SETS), (30, 400))

    def test_example(self):
        self.assertEqual(automaton_of(("plus", ("type", "t"))), ((1,), ((0, "t", 1), (1, "t", 1))))

    def test_by_hand(self):
        for text, automaton in AUTOMATA:
            self.assertEqual(self.check(read_content(text)), automaton, text)

    def test_same_rows(self):
        found = []
        for texts in ALIKE:
            automata = [self.check(read_content(text)) for text in texts]
            for text, automaton in zip(texts, automata):
                self.assertEqual(automaton, automata[0], text)
            found.append(automata[0])
        self.assertEqual(len(set(found)), len(ALIKE))

    def test_random_contents(self):
        chance = random.Random(11)
        for _ in range(400):
            self.check(random_content(chance, 3))

    def test_deep(self):
        content = ("type", "t")
        for number in range(5000):
            content = ("star", ("maybe", content)) if number % 2 else ("seq", (content, ("empty",)))
        self.assertEqual(automaton_of(content), ((0,), ((0, "t", 0),)))


class LimitsTest(unittest.TestCase):
    def refused(self, content):
        with self.assertRaises(TooMany):
            automaton_of(content)

    def test_states(self):
        row = [("type", "a")] * 30
        self.assertEqual(states_of(automaton_of(("seq", tuple(row[:29])))), 30)
        self.refused(("seq", tuple(row)))
        self.assertEqual(states_of(automaton_of(("plus", ("seq", tuple(row[:29]))))), 30)
        self.assertEqual(states_of(automaton_of(("star", ("seq", tuple(row))))), 30)
        self.refused(("plus", ("seq", tuple(row))))

    def test_states_of_the_least_automaton(self):
        # More than 30 sets of places, but few states.
        self.assertEqual(states_of(automaton_of(("seq", (("star", ("type", "a")),) * 40))), 1)
        self.assertEqual(states_of(automaton_of(read_content("(a | b)*, a, (a | b), (a | b), (a | b)"))), 16)
        self.refused(read_content("(a | b)*, a, (a | b), (a | b), (a | b), (a | b)"))

    def types(self, letter, many):
        return [("type", letter + str(number)) for number in range(many)]

    def test_sets_of_single_places(self):
        self.assertEqual(states_of(automaton_of(("or", tuple(self.types("a", 399))))), 2)
        self.refused(("or", tuple(self.types("a", 400))))
        self.assertEqual(states_of(automaton_of(("star", ("or", tuple(self.types("a", 398) + [("chars",)]))))), 1)
        self.refused(("star", ("or", tuple(self.types("a", 399) + [("chars",)]))))

    def test_sets_of_several_places(self):
        # Each t leads to the set of its two places, and from there x and y to one place each.
        pairs = [part for first in self.types("t", 133) for part in (
            ("seq", (first, ("type", "x"))), ("seq", (first, ("type", "y"))))]
        self.assertEqual(states_of(automaton_of(("or", tuple(pairs)))), 3)
        self.refused(("or", tuple(pairs + self.types("u", 1))))
        self.assertEqual(states_of(automaton_of(("or", tuple(pairs[:264] + self.types("u", 3))))), 3)
        self.refused(("or", tuple(pairs[:264] + self.types("u", 4))))

    def test_equal_sets_count_once(self):
        row = tuple(self.types("a", 399))
        self.assertEqual(states_of(automaton_of(("star", ("or", row)))), 1)
        self.assertEqual(states_of(automaton_of(("or", row + row))), 2)
        self.refused(("seq", (("or", row), ("or", row))))

    def test_long_rows(self):
        self.refused(("seq", tuple(("maybe", part) for part in self.types("a", 1500))))
        self.refused(("seq", (("type", "a"),) * 3000))


class AskingTest(unittest.TestCase):
    def test_steps(self):
        automaton = automaton_of(read_content("a, (b | c)*, chars"))
        for state, symbol, behind in ((0, "a", 1), (0, "b", None), (0, "char", None), (1, "b", 1), (1, "c", 1),
                                      (1, "char", 2), (1, "a", None), (2, "char", 2), (2, "b", None), (2, "d", None)):
            self.assertEqual(next_state(automaton, state, symbol), behind)
        self.assertIsNone(next_state(automaton_of(("empty",)), 0, "char"))
        self.assertEqual([is_final(automaton, state) for state in range(3)], [False, True, True])
        self.assertEqual([symbols_at(automaton, state) for state in range(3)], [["a"], ["b", "c", "char"], ["char"]])
        self.assertEqual(symbols_at(automaton_of(("empty",)), 0), [])

    def test_reads(self):
        automaton = automaton_of(read_content("a, (b | c)*, chars"))
        for row in (["a"], ("a", "b", "c", "b"), ["a", "char", "char"], ("a", "c", "char")):
            self.assertIs(reads(automaton, row), True, row)
        for row in ([], ("b",), ["a", "a"], ["char"], ("a", "char", "b"), ["a", "d"], ["d"]):
            self.assertIs(reads(automaton, row), False, row)
        self.assertIs(reads(automaton_of(("empty",)), ()), True)
        self.assertIs(reads(automaton_of(("type", "a")), []), False)

    def test_states(self):
        self.assertEqual(states_of(((0,), ())), 1)
        self.assertEqual(states_of(((0,), ((0, "a", 0),))), 1)
        self.assertEqual(states_of(LOOPS), 7)

    def test_parts(self):
        self.assertEqual(parts(((0,), ())), [0])
        self.assertEqual(parts(((1,), ((0, "a", 1), (1, "a", 1)))), [0, 1])
        self.assertEqual(parts(LOOPS), [0, 1, 1, 3, 3, 3, 6])
        self.assertEqual(parts(((0,), ((0, "a", 1), (1, "a", 2), (2, "a", 3), (3, "a", 0)))), [0, 0, 0, 0])
        self.assertEqual(parts(automaton_of(read_content("(a, b)*, c, (d, e)+"))), [0, 0, 2, 3, 3])

    def test_inner_edges(self):
        self.assertEqual(inner_edges(((0,), ())), [])
        self.assertEqual(inner_edges(((1,), ((0, "a", 1), (1, "a", 1)))), [(1, "a", 1)])
        self.assertEqual(inner_edges(LOOPS), [(1, "a", 2), (2, "a", 1), (2, "b", 2), (3, "a", 4), (4, "a", 5),
                                              (5, "a", 3)])
        self.assertEqual(inner_edges(automaton_of(read_content("a, b, c?"))), [])

    def test_parts_of_random_contents(self):
        chance = random.Random(4)
        for _ in range(200):
            automaton = automaton_of(random_content(chance, 3))
            many = states_of(automaton)
            leads = [[one == other for other in range(many)] for one in range(many)]
            for begin, _, end in automaton[1]:
                leads[begin][end] = True
            for middle, one, other in itertools.product(range(many), repeat=3):
                leads[one][other] |= leads[one][middle] and leads[middle][other]
            expected = [min(other for other in range(many) if leads[one][other] and leads[other][one])
                        for one in range(many)]
            self.assertEqual(parts(automaton), expected)
            self.assertEqual(inner_edges(automaton), [edge for edge in automaton[1] if leads[edge[2]][edge[0]]])


if __name__ == "__main__":
    unittest.main()
