"""[7] to [9]: documents, trees, outputs and the printed form."""

import random
import unittest

from hewstream.errors import NotValid
from hewstream.events import document_events, events_of, is_document, is_sign, is_tree, print_output, tree_of
from hewstream.tokens import read_text
from samples import Same

ODD = [Same(), (Same(),), (Same(), "b"), (Same(), "b", ()), None, True, False, 0, 1, -1, 1.5, "", "ab", "\r", "%",
       "\x7f", "\u00e9", b"a", b"", [], ["a"], (), ("a",), {}, {"a": 1}, {1}, object(),
       len, int]
NO_NAMES = [Same(), "", "A", "1", "abcdefghi", "a b", None, 1, True, ["a"], ("a",), b"a"]
NO_STRINGS = [Same(), None, 1, True, ["a"], ("a",), b"a", "\r", "%", "a%", "\u00e9", "\x00", "a\x7f"]
NO_SIGNS = [Same(), "", "ab", "%", "\r", "\x7f", "\u00e9", None, 1, True, ["a"], ("a",), b"a", 97]
EIGHT = tuple((name, "") for name in "abcdefgh")
NINE = tuple((name, "") for name in "abcdefghi")
# What cannot be the attributes of a start event.
NO_ATTRIBUTES = [None, "", [], {}, 1, True, ("x", "1"), (("x",),), (("x", "1", "2"),), (["x", "1"],), [("x", "1")],
                 ((),), (None,), ("xy",), NINE, (("y", ""), ("x", "")), (("x", ""), ("x", "")),
                 (("x", "1"), ("x", "2")), (("a", ""), ("c", ""), ("b", ""))]
NO_ATTRIBUTES += [((name, ""),) for name in NO_NAMES] + [(("x", value),) for value in NO_STRINGS]

DOCUMENTS = [
    [("start", "a", ()), ("end", "a")],
    [("start", "a", (("x", "1"), ("y", ""))), ("char", "b"), ("start", "c", EIGHT), ("end", "c"), ("char", "\t"),
     ("end", "a")],
    [("start", "a", (("x", "\t\n\"<>&'"),)), ("start", "a", ()), ("start", "a", ()), ("end", "a"), ("start", "b", ()),
     ("char", "<"), ("end", "b"), ("end", "a"), ("char", "\n"), ("char", ">"), ("char", "&"), ("char", "\""),
     ("end", "a")],
]
TREES = [
    ("a", (), ()),
    ("a", (("x", "1"), ("y", "")), ("b", ("c", EIGHT, ()), "\t")),
    ("a", (("x", "\t\n\"<>&'"),), (("a", (), (("a", (), ()), ("b", (), ("<",)))), "\n", ">", "&", "\"")),
]


def spoiled_events():
    """Events that stand in no document."""
    rows = [event for event in ODD]
    rows += [("start", name, ()) for name in NO_NAMES] + [("end", name) for name in NO_NAMES]
    rows += [("start", "b", attributes) for attributes in NO_ATTRIBUTES] + [("char", sign) for sign in NO_SIGNS]
    rows += [("start",), ("start", "b"), ("start", "b", (), ()), ("end",), ("end", "b", ()), ("char",),
             ("char", "b", "c"), ["start", "b", ()], ["end", "b"], ["char", "b"], ("signs", "b"), ("more", "b"),
             (None, "b"), (1, "b", ()), (["start"], "b", ()), ("Start", "b", ()), ("b", (), ()), "char", ("", "b")]
    return rows


def spoiled_trees():
    """Values that are no trees."""
    rows = [("a",), ("a", ()), ("a", (), (), ()), ["a", (), ()], ("a", (), []), ("a", (), None), ("a", (), "b"),
            ("a", (), {}), ("a", (), ("bc",)), ("a", (), ("",)), ("a", (), (("b",),)), ("start", "a", ())]
    rows += [(name, (), ()) for name in NO_NAMES] + [("a", attributes, ()) for attributes in NO_ATTRIBUTES]
    rows += [("a", (), (sign,)) for sign in NO_SIGNS if sign != ("a",)]
    return rows


def deep_tree(depth):
    tree = ("a", (), ("x",))
    for _ in range(depth - 1):
        tree = ("a", (), (tree,))
    return tree


def deep_document(depth):
    return [("start", "a", ())] * depth + [("char", "x")] + [("end", "a")] * depth


def random_tree(chance, depth):
    attributes = tuple((name, "".join(chance.choice("a<>&\"'\t\n ") for _ in range(chance.randrange(3))))
                       for name in "uvwxyz" if chance.random() < 0.3)
    children = []
    for _ in range(chance.randrange(4) if depth else 0):
        children.append(chance.choice("ab<>&\"'\t\n /") if chance.random() < 0.5 else random_tree(chance, depth - 1))
    return chance.choice(["a", "b2", "abcdefgh"]), attributes, tuple(children)


class FormsTest(unittest.TestCase):
    def test_signs(self):
        for code in range(300):
            expected = code in (9, 10) or 32 <= code <= 126 and code != 37
            self.assertIs(is_sign(chr(code)), expected, code)
        for value in ODD:
            self.assertIs(is_sign(value), False, repr(value))
        self.assertIs(is_sign("\t\n"), False)
        self.assertIs(is_sign(" !"), False)

    def test_documents(self):
        for document in DOCUMENTS:
            self.assertIs(is_document(document), True)
            self.assertIs(is_document(tuple(document)), False)

    def test_values_of_other_kinds(self):
        for value in ODD + TREES + DOCUMENTS[0] + ["<a/>", [("a", (), ())]]:
            self.assertIs(is_document(value), False, repr(value))
        for value in ODD + DOCUMENTS + DOCUMENTS[0] + ["a", "<a/>"]:
            self.assertIs(is_tree(value), False, repr(value))

    def test_events_put_into_documents(self):
        for document in DOCUMENTS:
            for event in spoiled_events():
                for at in range(len(document) + 1):
                    self.assertFalse(is_document(document[:at] + [event] + document[at:]), (at, event))
                    if at < len(document):
                        self.assertFalse(is_document(document[:at] + [event] + document[at + 1:]), (at, event))

    def test_events_left_out_or_doubled(self):
        for document in DOCUMENTS:
            for at, event in enumerate(document):
                if event[0] != "char":
                    self.assertFalse(is_document(document[:at] + document[at + 1:]))
                    self.assertFalse(is_document(document[:at] + [event] + document[at:]))
                self.assertFalse(is_document(document[:at]))
                if at > 0:
                    self.assertFalse(is_document(document[at:]))

    def test_nesting(self):
        start, end = ("start", "a", ()), ("end", "a")
        self.assertFalse(is_document([]))
        self.assertFalse(is_document([start, end, start, end]))
        self.assertFalse(is_document([start, end, ("char", "b")]))
        self.assertFalse(is_document([("char", "b"), start, end]))
        self.assertFalse(is_document([end, start]))
        self.assertFalse(is_document([start, ("end", "b")]))
        self.assertFalse(is_document([start, ("start", "b", ()), end, ("end", "b")]))
        self.assertFalse(is_document([start, end, end]))
        self.assertFalse(is_document([("char", "b")]))

    def test_names(self):
        for name in NO_NAMES:
            self.assertFalse(is_document([("start", name, ()), ("end", name)]), repr(name))
            self.assertFalse(is_document([("start", "a", ()), ("start", name, ()), ("end", name), ("end", "a")]))
        for name in ("a", "abcdefgh", "z9"):
            self.assertTrue(is_document([("start", name, ()), ("end", name)]))

    def test_attributes(self):
        for attributes in NO_ATTRIBUTES:
            self.assertFalse(is_document([("start", "a", attributes), ("end", "a")]), repr(attributes))
        for attributes in ((), (("x", ""),), (("x", "\t\n <&\"~"),), (("a", "1"), ("a1", "1"), ("b", "1")), EIGHT):
            self.assertTrue(is_document([("start", "a", attributes), ("end", "a")]), repr(attributes))
            self.assertTrue(is_tree(("a", attributes, ())))

    def test_trees(self):
        for tree in TREES:
            self.assertIs(is_tree(tree), True)
        for tree in spoiled_trees():
            self.assertIs(is_tree(tree), False, repr(tree))
            self.assertIs(is_tree(("a", (), ("x", tree))), False, repr(tree))
            self.assertIs(is_tree(("a", (), (tree, ("b", (), ())))), False, repr(tree))
            self.assertIs(is_tree(("a", (), (("b", (), (tree,)), "y"))), False, repr(tree))


class TreesTest(unittest.TestCase):
    def test_lead_to_each_other(self):
        for document, tree in zip(DOCUMENTS, TREES):
            self.assertEqual(tree_of(document), tree)
            self.assertEqual(events_of(tree), document)

    def test_random_trees(self):
        chance = random.Random(7)
        for _ in range(200):
            tree = random_tree(chance, 4)
            self.assertTrue(is_tree(tree))
            document = events_of(tree)
            self.assertTrue(is_document(document))
            self.assertEqual(tree_of(document), tree)

    def test_very_deep(self):
        for depth in (61, 2000, 100000):
            document = deep_document(depth)
            self.assertIs(is_document(document), True)
            self.assertIs(is_document(document[:-1]), False)
            self.assertIs(is_document(document + [("end", "a")]), False)
            tree = deep_tree(depth)
            self.assertIs(is_tree(tree), True)
            self.assertEqual(events_of(tree), document)
            self.assertEqual(events_of(tree_of(document)), document)

    def test_no_document(self):
        for value in ODD + TREES + [DOCUMENTS[0][:1], DOCUMENTS[1][1:], [("signs", "a")], tuple(DOCUMENTS[0])]:
            with self.assertRaises(NotValid):
                tree_of(value)

    def test_nothing_is_changed(self):
        document = list(DOCUMENTS[2])
        tree_of(document)
        is_document(document)
        self.assertEqual(document, DOCUMENTS[2])
        events = events_of(TREES[2])
        events.append("more")
        self.assertEqual(events_of(TREES[2]), DOCUMENTS[2])


class OutputTest(unittest.TestCase):
    def test_document_events(self):
        output = [("start", "a", (("x", "1"),)), ("signs", "b<\n"), ("char", "&"), ("signs", "c"), ("start", "d", ()),
                  ("end", "d"), ("end", "a")]
        kept = list(output)
        self.assertEqual(document_events(output), [
            ("start", "a", (("x", "1"),)), ("char", "b"), ("char", "<"), ("char", "\n"), ("char", "&"), ("char", "c"),
            ("start", "d", ()), ("end", "d"), ("end", "a")])
        self.assertEqual(output, kept)
        self.assertEqual(document_events([]), [])
        self.assertEqual(document_events([("signs", "ab")]), [("char", "a"), ("char", "b")])

    def printed(self, output):
        data = print_output(output)
        self.assertIsInstance(data, list)
        self.assertTrue(all(type(byte) is int for byte in data))
        return "".join(chr(byte) for byte in data)

    def test_example(self):
        self.assertEqual(self.printed([("start", "a", (("x", "\"<"),)), ("signs", "b&"), ("end", "a")]),
                         '<a x="&quot;&lt;">b&amp;</a>')

    def test_each_kind(self):
        self.assertEqual(self.printed([]), "")
        self.assertEqual(self.printed([("start", "a", ()), ("end", "a")]), "<a/>")
        self.assertEqual(self.printed([("start", "a", (("x", "1"), ("y", ""))), ("end", "a")]), '<a x="1" y=""/>')
        self.assertEqual(self.printed([("start", "a", (("x", "1"), ("y", "2"))), ("char", "b"), ("end", "a")]),
                         '<a x="1" y="2">b</a>')
        self.assertEqual(self.printed([("start", "a", ()), ("start", "a", ()), ("end", "a"), ("end", "a")]),
                         "<a><a/></a>")
        self.assertEqual(self.printed([("start", "a", ()), ("start", "b", ()), ("end", "b"), ("start", "c", ()),
                                       ("signs", "xyz"), ("end", "c"), ("end", "a")]), "<a><b/><c>xyz</c></a>")

    def test_rows_that_are_no_document(self):
        self.assertEqual(self.printed([("start", "a", ())]), "<a>")
        self.assertEqual(self.printed([("end", "a")]), "</a>")
        self.assertEqual(self.printed([("end", "a"), ("end", "a")]), "</a></a>")
        self.assertEqual(self.printed([("char", "x"), ("start", "a", ()), ("start", "b", ())]), "x<a><b>")
        self.assertEqual(self.printed([("signs", "x"), ("end", "a"), ("start", "a", ()), ("end", "a"), ("end", "b")]),
                         "x</a><a/></b>")

    def test_signs_with_and(self):
        signs = "".join(chr(code) for code in [9, 10, *range(32, 37), *range(38, 127)])
        content = signs.replace("&", "&amp;").replace("<", "&lt;").replace(">", "&gt;")
        value = content.replace('"', "&quot;")
        start, end = ("start", "a", (("x", signs),)), ("end", "a")
        self.assertEqual(self.printed([start, ("signs", signs), end]), '<a x="' + value + '">' + content + "</a>")
        self.assertEqual(self.printed([start, *[("char", sign) for sign in signs], end]),
                         '<a x="' + value + '">' + content + "</a>")
        self.assertEqual(self.printed([("signs", "&lt;&amp;")]), "&amp;lt;&amp;amp;")

    def test_reading_again(self):
        for document in DOCUMENTS:
            kept = list(document)
            self.assertEqual(read_text(print_output(document)), document)
            self.assertEqual(document, kept)
        chance = random.Random(3)
        for _ in range(200):
            document = events_of(random_tree(chance, 4))
            self.assertEqual(read_text(print_output(document)), document)

    def test_reading_an_output_again(self):
        output = [("start", "a", ()), ("signs", "b<\n"), ("char", "&"), ("start", "d", (("x", "\""),)), ("end", "d"),
                  ("signs", "\"'>"), ("end", "a")]
        self.assertEqual(read_text(print_output(output)), document_events(output))


if __name__ == "__main__":
    unittest.main()
