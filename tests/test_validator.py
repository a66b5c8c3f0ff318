"""[18], [20], [21]: valid documents, and the first event from which none can come."""

import random
import unittest

from content_oracle import behind, can_be_empty
from hewstream.events import events_of, is_document, tree_of
from hewstream.schemas import Grammar, is_schema, read_schema
from hewstream.tokens import read_text
from hewstream.validator import Validator, validate
from schema_oracle import child_types, is_valid_tree, random_events, random_schema, small_content

BOOK = """
root book
book = b @id! @lang : title, (part+ | para*)
title = t : chars
part = p @n : title, para*
para = x @k! @l! @m : (chars | bold)*
bold = i : chars
"""
# Documents that are valid, and documents with one thing spoiled: (text, index of the event, fault).
VALID = [
    '<b id="1"><t/></b>',
    '<b id="" lang="e"><t>abc</t><p><t/></p><p n="1"><t>d</t><x l="" k="">e<i>f</i>g</x></p></b>',
    '<b id="2"><t/><x k="" l="" m=""/><x k="1" l="2"><i/><i>a</i></x></b>',
]
SPOILED = [
    ('<c id="1"><t/></c>', 0, "root"),
    ('<book id="1"><t/></book>', 0, "root"),
    ("<t/>", 0, "root"),
    ("<b><t/></b>", 0, "attribute"),
    ('<b lang="1"><t/></b>', 0, "attribute"),
    ('<b id="1" n="1"><t/></b>', 0, "attribute"),
    ("<c/>", 0, "root"),
    ('<b id="1"/>', 1, "end"),
    ('<b id="1">x<t/></b>', 1, "char"),
    ('<b id="1"> <t/></b>', 1, "char"),
    ('<b id="1"><title/></b>', 1, "name"),
    ('<b id="1"><p><t/></p></b>', 1, "name"),
    ('<b id="1"><t id="1"/></b>', 1, "attribute"),
    ('<b id="1"><t><t/></t></b>', 2, "name"),
    ('<b id="1"><t/><t/></b>', 3, "name"),
    ('<b id="1"><t/>x</b>', 3, "char"),
    ('<b id="1"><t/><p/></b>', 4, "end"),
    ('<b id="1"><t/><p><x k="" l=""/></p></b>', 4, "name"),
    ('<b id="1"><t/><p><t/></p><x k="" l=""/></b>', 7, "name"),
    ('<b id="1"><t/><x k="" l=""/><p><t/></p></b>', 5, "name"),
    ('<b id="1"><t/><x k=""/></b>', 3, "attribute"),
    ('<b id="1"><t/><x l=""/></b>', 3, "attribute"),
    ('<b id="1"><t/><x k="" l="" n=""/></b>', 3, "attribute"),
    ('<b id="1"><t/><x/></b>', 3, "attribute"),
    ('<b id="1"><t/><x k="" l="">a<b/></x></b>', 5, "name"),
    ('<b id="1"><t/><x k="" l="">a<i n=""/></x></b>', 5, "attribute"),
    ('<b id="1"><t/><x k="" l=""><i>a<i/></i></x></b>', 6, "name"),
]


def events_in(text):
    return read_text([ord(sign) for sign in text])


def grammar_of(text):
    return Grammar(read_schema(text))


def first_fault(schema, events):
    """The (index, fault) of the first fault, by what may stand behind the children so far."""
    around = []
    begun = False
    for index, event in enumerate(events):
        if begun and not around:
            return index, "more"
        if not begun:
            if event[0] != "start" or event[1] != schema["types"][schema["root"]][0]:
                return index, "root"
            child = schema["root"]
        elif event[0] == "end":
            kind, content = around.pop()
            if event[1] != schema["types"][kind][0] or not can_be_empty(content):
                return index, "end"
            continue
        else:
            kind, content = around[-1]
            child = "char" if event[0] == "char" else child_types(schema, kind).get(event[1])
            rest = behind(content, child)
            if rest is None:
                return index, "char" if event[0] == "char" else "name"
            around[-1] = kind, rest
        begun = True
        if event[0] == "start":
            known = dict(schema["types"][child][1])
            given = [name for name, _ in event[2]]
            if not all(name in known for name in given) or not all(
                    name in given for name, needed in known.items() if needed):
                return index, "attribute"
            around.append((child, schema["types"][child][2]))
    return (len(events), "open") if around or not begun else (-1, "")


class FaultsTest(unittest.TestCase):
    def test_valid(self):
        grammar = grammar_of(BOOK)
        for text in VALID:
            self.assertEqual(validate(grammar, events_in(text)), (-1, ""), text)
            self.assertTrue(is_valid_tree(grammar.schema(), tree_of(events_in(text))))

    def test_spoiled(self):
        grammar = grammar_of(BOOK)
        for text, index, fault in SPOILED:
            self.assertEqual(validate(grammar, events_in(text)), (index, fault), text)
            self.assertFalse(is_valid_tree(grammar.schema(), tree_of(events_in(text))))

    def test_first_event(self):
        grammar = grammar_of(BOOK)
        for event in (("char", "a"), ("end", "b"), ("end", "x"), ("start", "x", ()), ("start", "t", (("id", ""),))):
            self.assertEqual(validate(grammar, [event]), (0, "root"))

    def test_behind_the_end(self):
        grammar = grammar_of(BOOK)
        document = events_in(VALID[0])
        for event in (("char", "a"), ("end", "b"), ("start", "b", ()), ("start", "b", (("id", ""),)), ("end", "x")):
            self.assertEqual(validate(grammar, document + [event]), (4, "more"))

    def test_ends(self):
        grammar = grammar_of(BOOK)
        start = ("start", "b", (("id", ""),))
        self.assertEqual(validate(grammar, [start, ("end", "t")]), (1, "end"))
        self.assertEqual(validate(grammar, [start, ("end", "b")]), (1, "end"))
        self.assertEqual(validate(grammar, [start, ("start", "t", ()), ("end", "b")]), (2, "end"))
        self.assertEqual(validate(grammar, [start, ("start", "t", ()), ("end", "title")]), (2, "end"))

    def test_order_of_faults(self):
        grammar = grammar_of(BOOK)
        # The name is wrong, and so are the attributes.
        self.assertEqual(validate(grammar, [("start", "z", (("z", ""),))]), (0, "root"))
        start = ("start", "b", (("id", ""),))
        for name in ("z", "p", "b"):
            self.assertEqual(validate(grammar, [start, ("start", name, (("z", ""),))]), (1, "name"))
        self.assertEqual(validate(grammar, events_in(VALID[0]) + [("start", "z", (("z", ""),))]), (4, "more"))

    def test_open(self):
        grammar = grammar_of(BOOK)
        for text in VALID:
            events = events_in(text)
            for many in range(len(events)):
                self.assertEqual(validate(grammar, events[:many]), (many, "open"))

    def test_depth_does_not_count(self):
        grammar = grammar_of("root a\na = a : a?\n")
        events = [("start", "a", ())] * 3000 + [("end", "a")] * 3000
        self.assertEqual(validate(grammar, events), (-1, ""))
        self.assertEqual(validate(grammar, events[:-1]), (5999, "open"))

    def test_types_by_their_place(self):
        grammar = grammar_of("root r\nr = r : a, b\na = x : s\nb = y : t\ns = z : empty\nt = z @n! : chars\n")
        self.assertEqual(validate(grammar, events_in('<r><x><z/></x><y><z n="">a</z></y></r>')), (-1, ""))
        self.assertEqual(validate(grammar, events_in('<r><x><z n=""/></x><y><z n="">a</z></y></r>')), (2, "attribute"))
        self.assertEqual(validate(grammar, events_in("<r><x><z>a</z></x></r>")), (3, "char"))
        self.assertEqual(validate(grammar, events_in("<r><x><z/></x><y><z/></y></r>")), (6, "attribute"))

    def test_random_rows(self):
        chance = random.Random(6)
        told = {}
        for _ in range(300):
            schema = random_schema(chance, small_content, is_schema)
            grammar = Grammar(schema)
            for _ in range(20):
                events = random_events(chance, schema, chance.randrange(14))
                expected = first_fault(schema, events)
                self.assertEqual(validate(grammar, events), expected, (schema, events))
                told[expected[1]] = told.get(expected[1], 0) + 1
                if is_document(events):
                    self.assertEqual(expected[1] == "", is_valid_tree(schema, tree_of(events)))
        for fault in ("", "open", "root", "more", "name", "attribute", "char", "end"):
            self.assertGreater(told.get(fault, 0), 20, told)

    def test_nothing_is_changed(self):
        grammar = grammar_of(BOOK)
        events = events_in(VALID[1])
        validate(grammar, events)
        self.assertEqual(events, events_in(VALID[1]))


class StateTest(unittest.TestCase):
    def test_walk(self):
        grammar = grammar_of(BOOK)
        validator = Validator(grammar)
        rows = [
            (None, [("start", "b")], [], []),
            (("start", "b", (("id", ""),)), [("start", "t")], ["book"], [0]),
            (("start", "t", ()), [("end", "t"), ("char",)], ["book", "title"], [1, 0]),
            (("char", "a"), [("end", "t"), ("char",)], ["book", "title"], [1, 0]),
            (("end", "t"), [("end", "b"), ("start", "p"), ("start", "x")], ["book"], [1]),
            (("start", "x", (("k", ""), ("l", ""))), [("end", "x"), ("char",), ("start", "i")], ["book", "para"],
             [2, 0]),
            (("start", "i", ()), [("end", "i"), ("char",)], ["book", "para", "bold"], [2, 0, 0]),
            (("end", "i"), [("end", "x"), ("char",), ("start", "i")], ["book", "para"], [2, 0]),
            (("end", "x"), [("end", "b"), ("start", "x")], ["book"], [2]),
            (("end", "b"), [], [], []),
        ]
        for event, expected, kinds, states in rows:
            if event is not None:
                self.assertEqual(validator.take(event), "")
            self.assertEqual(validator.expected(), expected)
            self.assertEqual(validator.open_types(), kinds)
            self.assertEqual(validator.states(), states)
            self.assertEqual(validator.fault(), "")
            self.assertIs(validator.is_complete(), event == ("end", "b"))

    def test_expected_ascends_by_names(self):
        grammar = grammar_of("root r\nr = r : (a | b | c)*, chars\na = z : empty\nb = y : empty\nc = x : empty\n")
        validator = Validator(grammar)
        validator.take(("start", "r", ()))
        self.assertEqual(validator.expected(), [("end", "r"), ("char",), ("start", "x"), ("start", "y"),
                                                ("start", "z")])

    def test_expected_is_what_can_come(self):
        chance = random.Random(8)
        for _ in range(200):
            schema = random_schema(chance, small_content, is_schema)
            grammar = Grammar(schema)
            validator = Validator(grammar)
            for _ in range(12):
                expected = validator.expected()
                rows = [("char", "a")]
                for name, attributes, _ in schema["types"].values():
                    rows.append(("end", name))
                    rows.append(("start", name, tuple((key, "") for key, _ in attributes)))
                good = [event for event in rows if validator.copied().take(event) in ("", "attribute")]
                told = sorted({event[:1] if event[0] == "char" else event[:2] for event in good},
                              key=lambda row: (("end", "char", "start").index(row[0]), row[1:]))
                self.assertEqual(expected, told)
                good = [event for event in good if validator.copied().take(event) == ""]
                if not good:
                    break
                self.assertEqual(validator.take(chance.choice(good)), "")

    def test_behind_a_fault(self):
        grammar = grammar_of(BOOK)
        for text, index, fault in SPOILED:
            validator = Validator(grammar)
            events = events_in(text)
            for event in events[:index]:
                self.assertEqual(validator.take(event), "")
            kinds, states = validator.open_types(), validator.states()
            self.assertEqual(validator.take(events[index]), fault)
            for event in [("start", "t", ()), ("end", "b"), ("char", "a"), ("start", "b", (("id", ""),))] + events:
                self.assertEqual(validator.take(event), fault)
                self.assertEqual(validator.fault(), fault)
                self.assertEqual(validator.expected(), [])
                self.assertIs(validator.is_complete(), False)
            self.assertEqual((validator.open_types(), validator.states()), (kinds, states))

    def test_behind_the_end(self):
        grammar = grammar_of(BOOK)
        validator = Validator(grammar)
        for event in events_in(VALID[0]):
            validator.take(event)
        self.assertIs(validator.is_complete(), True)
        self.assertEqual((validator.open_types(), validator.states(), validator.expected()), ([], [], []))
        self.assertEqual(validator.take(("char", "a")), "more")
        self.assertIs(validator.is_complete(), False)
        self.assertEqual(validator.fault(), "more")
        self.assertEqual(validator.take(("start", "b", (("id", ""),))), "more")

    def test_copied(self):
        grammar = grammar_of(BOOK)
        validator = Validator(grammar)
        events = events_in(VALID[1])
        for number, event in enumerate(events):
            copy = validator.copied()
            for other in events[number:]:
                self.assertEqual(copy.take(other), "")
            self.assertIs(copy.is_complete(), True)
            self.assertIs(validator.is_complete(), False)
            spoiled = validator.copied()
            self.assertNotEqual(spoiled.take(("end", "zz")), "")
            self.assertEqual(spoiled.copied().fault(), spoiled.fault())
            self.assertEqual(spoiled.copied().take(event), spoiled.fault())
            self.assertEqual(validator.fault(), "")
            self.assertEqual(validator.take(event), "")
            self.assertEqual(validator.copied().states(), validator.states())
            self.assertEqual(validator.copied().open_types(), validator.open_types())
        self.assertIs(validator.copied().is_complete(), True)
        self.assertEqual(validator.copied().take(("char", "a")), "more")

    def test_returned_lists_are_not_changed(self):
        grammar = grammar_of(BOOK)
        validator = Validator(grammar)
        validator.take(("start", "b", (("id", ""),)))
        kinds, states, expected = validator.open_types(), validator.states(), validator.expected()
        validator.take(("start", "t", ()))
        self.assertEqual((kinds, states, expected), (["book"], [0], [("start", "t")]))
        kinds.append("more")
        states.clear()
        validator.open_types().clear()
        validator.states().append(5)
        self.assertEqual((validator.open_types(), validator.states()), (["book", "title"], [1, 0]))

    def test_no_events(self):
        self.assertEqual(validate(grammar_of(BOOK), []), (0, "open"))
        self.assertEqual(validate(grammar_of("root a\na = a : empty\n"), []), (0, "open"))

    def test_tree_leads_to_valid_document(self):
        grammar = grammar_of(BOOK)
        tree = ("b", (("id", "1"),), (("t", (), ("a", "b")), ("p", (), (("t", (), ()),))))
        self.assertEqual(validate(grammar, events_of(tree)), (-1, ""))


if __name__ == "__main__":
    unittest.main()
