"""[16], [17], [19]: schemas, their texts and their grammars."""

import copy
import random
import unittest

from content_oracle import types_in
from hewstream.automata import automaton_of
from hewstream.errors import BadText, NotValid, TooMany
from hewstream.regexes import print_content, read_content
from hewstream.schemas import Grammar, is_schema, print_schema, read_schema
from samples import Same, spoiled_contents

ODD = [Same(), (Same(),), ("i", (), Same()), ("i", Same(), ("chars",)), (Same(), (), ("chars",)), None, True, False,
       0, 1, 1.5, "", "root", b"root", [], (), {}, {1}, object(), len, ["root"], ("root",)]
NO_NAMES = [Same(), "", "A", "1", "abcdefghi", "a b", "\u00e9", None, 1, True, ["a"], ("a",), b"a"]
EXAMPLE = {"root": "doc", "types": {"doc": ("d", (("id", True),), ("star", ("type", "item"))),
                                    "item": ("i", (), ("chars",))}}
EXAMPLE_TEXT = "root doc\ndoc = d @id! : item*\nitem = i : chars\n"
NINE = tuple((name, False) for name in "abcdefghi")

# Schemas, with their printed forms.
PRINTED = [
    (EXAMPLE, EXAMPLE_TEXT),
    ({"root": "a", "types": {"a": ("a", (), ("empty",))}}, "root a\na = a : empty\n"),
    ({"root": "root", "types": {"root": ("empty", (("b", False), ("c", True)), ("maybe", ("type", "root")))}},
     "root root\nroot = empty @b @c! : root?\n"),
    ({"root": "b", "types": {
        "b": ("char", NINE[:8], ("or", (("seq", (("type", "a"), ("type", "c"))), ("chars",)))),
        "a": ("chars", (), ("empty",)), "c": ("b", (), ("seq", (("star", ("type", "a")), ("type", "a2")))),
        "a2": ("b12", (("x", True),), ("plus", ("or", (("type", "a"), ("chars",)))))}},
     "root b\na = chars : empty\na2 = b12 @x! : (a | chars)+\nb = char @a @b @c @d @e @f @g @h : a, c | chars\n"
     "c = b : a*, a2\n"),
    ({"root": "r", "types": {"r": ("r", (), ("or", (("type", "a"), ("type", "b")))),
                             "a": ("x", (), ("type", "s")), "b": ("y", (), ("type", "t")),
                             "s": ("z", (), ("empty",)), "t": ("z", (), ("chars",))}},
     "root r\na = x : s\nb = y : t\nr = r : a | b\ns = z : empty\nt = z : chars\n"),
]

# The same schemas, written otherwise.
WRITTEN = [
    ("item = i : chars\ndoc = d @id! : item*\nroot doc", EXAMPLE),
    ("\n   \n  doc=d@id!:item*  \n\n item  =  i  :  ( chars )  \n  root   doc  \n \n\n", EXAMPLE),
    ("doc = d @ id ! : item*\nroot doc\nitem = i:chars\n", EXAMPLE),
    ("root = empty @c! @b : root?\nroot root\n", PRINTED[2][0]),
    ("root  root\n root   =empty @c!@b:root ?", PRINTED[2][0]),
    ("root root\nroot=empty@b@c!:root?\n", PRINTED[2][0]),
    ("root b\na2 = b12 @x! : ((a)|chars)+\na = chars : empty\nc = b : (a*),a2\n"
     "b = char @h @g @f @e @d @c @b @a : (a, c) | chars\n", PRINTED[3][0]),
]

# A line that is none, with the place of its fault.
LINES = [
    # the line of the root
    ("root", 5), ("root  ", 7), ("  root", 7), ("root a b", 8), ("root a =", 8), ("root a:", 7), ("root 1a", 6),
    ("root chars", 6), ("root empty", 6), ("root char", 6), ("root abcdefghi", 6), ("root :", 6), ("root @a", 6),
    ("root A", 6), ("root ,", 6), ("root a,", 7), ("root root root", 11), ("root a root", 8),
    # the type
    ("1 = a : empty", 1), ("chars = a : empty", 1), ("  empty = a : empty", 3), ("char = a : empty", 1),
    ("abcdefghi = a : empty", 1), ("= a : empty", 1), ("A = a : empty", 1), (": a", 1), ("@a", 1), ("\troot a", 1),
    ("roota", 6), ("roota b", 7), ("root1 a", 7), ("#", 1), ("!", 1), ("*", 1),
    # the sign behind it
    ("a", 2), ("a  ", 4), ("a : a : empty", 3), ("a b = a : empty", 3), ("a @b", 3), ("a 1", 3), ("aB = a : empty", 2),
    ("a == b : empty", 4),
    # the name of the element
    ("a =", 4), ("a = ", 5), ("a = 1 : empty", 5), ("a = abcdefghi : empty", 5), ("a = : empty", 5), ("a = @b", 5),
    ("a = A : empty", 5), ("a = = b", 5), ("root = ", 8), ("root =", 7), ("root = 1", 8),
    # attributes
    ("a = b", 6), ("a = b ", 7), ("a = b c : empty", 7), ("a = b @", 8), ("a = b @ ", 9), ("a = b @1 : empty", 8),
    ("a = b @abcdefghi : empty", 8), ("a = b @@c : empty", 8), ("a = b @! : empty", 8), ("a = b @c", 9),
    ("a = b @c!", 10), ("a = b @c!! : empty", 10), ("a = b @c d : empty", 10), ("a = b ! : empty", 7),
    ("a = b @c @", 11), ("a = b @c! @d ! !", 16), ("a = b @C : empty", 8), ("a = b @c,@d : empty", 9),
    ("a = b @c = d", 10), ("a = b @: empty", 8), ("a = b @c! d", 11),
    # the colon and the content
    ("a = b = empty", 7), ("a = b :", 8), ("a = b : ", 9), ("a = b :: empty", 8), ("a = b : empty c", 15),
    ("a = b : c, ", 12), ("a = b : (c", 11), ("a = b : c)", 10), ("a = b : 1", 9), ("a = b : char", 9),
    ("a = b : abcdefghi", 9), ("a = b : c || d", 12), ("a = b : @c", 9), ("a = b : c @d", 11), ("a = b : c\t", 10),
    ("a = b : *", 9), ("a = b : c; d", 10), ("a = b : c : d", 11), ("a = b : c \u00e9", 11), ("a = b @c! : A", 13),
    ("a = b\t: empty", 6), ("a = b : empty\r", 14),
]

# Texts of right lines that are no schema.
NO_SCHEMAS = [
    "", "\n", "   ", "a = a : empty", "a = a : empty\nb = b : empty\n", "root a", "root a\n\n",
    "root a\nroot a\na = a : empty", "root a\nroot b\na = a : b\nb = b : empty", "root b\na = a : empty",
    "root a\na = a : empty\na = a : empty", "root a\na = a : empty\na = a : chars", "root a\na = a : b",
    "root a\na = a @x @x : empty", "root a\na = a @x! @x : empty", "root a\na = a @x @y @x! : empty",
    "root a\na = a @a @b @c @d @e @f @g @h @i : empty", "root a\na = a : a", "root a\na = a : a+",
    "root a\na = a : b?\nb = b : b", "root a\na = a : empty\nb = b : empty", "root a\na = a : a?\nb = b : b*",
    "root a\na = a : b | c\nb = x : empty\nc = x : empty", "root a\na = a : b | c, b\nb = b : chars\nc = c : a, c",
]


def fault_of(text):
    try:
        read_schema(text)
    except BadText as fault:
        return fault.line, fault.place
    return None


def schema_of(*lines):
    """A schema by its text, as it stands: it need not be one."""
    rows = {}
    for line in lines:
        kind, _, rest = line.partition(" = ")
        element, _, content = rest.partition(" : ")
        rows[kind] = (element, (), read_content(content))
    return {"root": lines[0].partition(" = ")[0], "types": rows}


class FormsTest(unittest.TestCase):
    def spoiled(self, **parts):
        """The example with other parts of the type item."""
        row = {"element": "i", "attributes": (), "content": ("chars",)}
        row.update(parts)
        schema = copy.deepcopy(EXAMPLE)
        schema["types"]["item"] = (row["element"], row["attributes"], row["content"])
        return schema

    def test_schemas(self):
        for schema, _ in PRINTED:
            self.assertIs(is_schema(schema), True)
        for part in ("i", "char", "empty", "chars", "abcdefgh", "d"):
            self.assertIs(is_schema(self.spoiled(element=part)), True)
        for part in ((), (("x", True),), (("x", False), ("y", True)), NINE[:8], (("a", True), ("a1", True))):
            self.assertIs(is_schema(self.spoiled(attributes=part)), True)

    def test_values_of_other_kinds(self):
        for value in ODD + [[EXAMPLE], ("root", "types"), EXAMPLE_TEXT, [("root", "doc"), ("types", {})]]:
            self.assertIs(is_schema(value), False, repr(value))

    def test_keys(self):
        for key in ("root", "types"):
            schema = copy.deepcopy(EXAMPLE)
            del schema[key]
            self.assertIs(is_schema(schema), False)
            schema["more"] = EXAMPLE[key]
            self.assertIs(is_schema(schema), False)
        self.assertIs(is_schema(dict(EXAMPLE, more=1)), False)

    def test_root(self):
        for root in ODD + NO_NAMES + ["i", "d", "other"]:
            self.assertIs(is_schema({"root": root, "types": EXAMPLE["types"]}), False, repr(root))

    def test_types(self):
        for types in ODD + [list(EXAMPLE["types"]), tuple(EXAMPLE["types"].items())]:
            self.assertIs(is_schema({"root": "doc", "types": types}), False, repr(types))

    def test_names_of_types(self):
        for name in NO_NAMES + ["empty", "chars", "char"]:
            if name != ["a"]:
                types = {"doc": ("d", (), ("empty",)), name: ("i", (), ("empty",))}
                self.assertIs(is_schema({"root": "doc", "types": types}), False, repr(name))
                types["doc"] = ("d", (), ("type", name))
                self.assertIs(is_schema({"root": "doc", "types": types}), False, repr(name))
                self.assertIs(is_schema({"root": name, "types": {name: ("i", (), ("empty",))}}), False, repr(name))

    def test_rows_of_types(self):
        rows = ODD + [("i", ()), ("i", (), ("chars",), ()), ["i", (), ("chars",)], ("i", ("chars",), ()), "i"]
        for row in rows:
            schema = copy.deepcopy(EXAMPLE)
            schema["types"]["item"] = row
            self.assertIs(is_schema(schema), False, repr(row))
            schema = copy.deepcopy(EXAMPLE)
            schema["types"]["doc"] = row
            self.assertIs(is_schema(schema), False, repr(row))

    def test_elements(self):
        for element in NO_NAMES:
            self.assertIs(is_schema(self.spoiled(element=element)), False, repr(element))
            self.assertIs(is_schema({"root": "a", "types": {"a": (element, (), ("empty",))}}), False, repr(element))

    def test_attributes(self):
        rows = [None, "", [], {}, 1, ("x", True), (("x",),), (("x", True, 1),), (["x", True],), [("x", True)], (None,),
                (("x", 1),), (("x", 0),), (("x", Same()),), (("x", None),), (("x", "!"),), (("x", ()),), ("xy",),
                NINE, ((),),
                (("y", True), ("x", True)), (("x", True), ("x", True)), (("x", False), ("x", True)),
                (("a", True), ("c", True), ("b", True))]
        rows += [((name, True),) for name in NO_NAMES]
        for attributes in rows:
            self.assertIs(is_schema(self.spoiled(attributes=attributes)), False, repr(attributes))

    def test_contents(self):
        for content in spoiled_contents():
            self.assertIs(is_schema(self.spoiled(content=content)), False, repr(content))
            self.assertIs(is_schema(self.spoiled(content=("maybe", content))), False, repr(content))
        self.assertIs(is_schema(self.spoiled(content=("maybe", ("type", "other")))), False)
        self.assertIs(is_schema(self.spoiled(content=("maybe", ("type", "doc")))), True)

    def test_nothing_is_changed(self):
        schema = copy.deepcopy(EXAMPLE)
        is_schema(schema)
        print_schema(schema)
        Grammar(schema)
        self.assertEqual(schema, EXAMPLE)

    def test_automata_are_not_looked_at(self):
        content = ("seq", (("type", "b"),) * 40)
        self.assertIs(is_schema({"root": "a", "types": {"a": ("a", (), content), "b": ("b", (), ("empty",))}}), True)


class TypesTest(unittest.TestCase):
    def test_names_of_children(self):
        self.assertIs(is_schema(schema_of("r = r : a, b", "a = x : empty", "b = y : empty")), True)
        for content in ("a, b", "a | b", "a*, (b | chars)+", "(a?, a)*, b*"):
            self.assertIs(is_schema(schema_of("r = r : " + content, "a = x : empty", "b = x : empty")), False)
        # In two contents the types may have the same name, and so may a type and the one around it.
        self.assertIs(is_schema(schema_of("r = r : a, b", "a = x : c", "b = y : d", "c = z : empty", "d = z : chars")),
                      True)
        self.assertIs(is_schema(schema_of("r = r : a*", "a = r : r?")), True)
        self.assertIs(is_schema(schema_of("r = r : a, a, a", "a = r : chars")), True)

    def test_productive(self):
        for content in ("r?", "r*", "r | empty", "chars | r, r", "(r+)?", "(r, r)*", "r?, chars", "(r | a)+", "a, r*"):
            reached = "a" in types_in(read_content(content))
            self.assertIs(is_schema(schema_of("r = r : " + content, "a = a : r?")), reached, content)
            self.assertIs(is_schema(schema_of("r = r : (" + content + "), a?", "a = a : r?")), True, content)
        for content in ("r", "r+", "r, chars", "r | r", "a, r", "a | r", "a+ | r", "a", "(a | r)+", "r+, empty"):
            self.assertIs(is_schema(schema_of("r = r : (" + content + "), a*", "a = a : r")), False, content)

    def test_productive_through_others(self):
        chain = ["t%d = x : t%d" % (number, number + 1) for number in range(50)]
        self.assertIs(is_schema(schema_of(*chain, "t50 = x : t0?")), True)
        self.assertIs(is_schema(schema_of(*chain, "t50 = x : t0")), False)
        self.assertIs(is_schema(schema_of(*chain, "t50 = x : t10 | t0")), False)
        self.assertIs(is_schema(schema_of("r = r : a?, b?", "a = a : empty", "b = b : b")), False)
        self.assertIs(is_schema(schema_of("r = r : a | b", "a = a : empty", "b = b : b+")), False)

    def test_reached(self):
        self.assertIs(is_schema(schema_of("r = r : empty", "a = a : empty")), False)
        self.assertIs(is_schema(schema_of("r = r : chars", "a = a : r, b", "b = b : empty")), False)
        self.assertIs(is_schema(schema_of("r = r : a?", "a = a : (b | r)*", "b = b : empty")), True)
        schema = schema_of("r = r : a?", "a = a : empty")
        self.assertIs(is_schema(dict(schema, root="a")), False)
        self.assertIs(is_schema(schema_of("r = r : empty", "a = a : a?")), False)


class TextsTest(unittest.TestCase):
    def test_example(self):
        self.assertEqual(read_schema(EXAMPLE_TEXT), EXAMPLE)
        self.assertEqual(print_schema(EXAMPLE), EXAMPLE_TEXT)

    def test_printed_forms(self):
        for schema, text in PRINTED:
            self.assertEqual(print_schema(schema), text)
            self.assertEqual(read_schema(text), schema)
            self.assertEqual(list(read_schema(text)["types"]), sorted(schema["types"]))

    def test_written_otherwise(self):
        for text, schema in WRITTEN:
            self.assertEqual(read_schema(text), schema, text)
        chance = random.Random(1)
        for schema, text in PRINTED:
            for _ in range(30):
                lines = text.split("\n") + ["", "  "]
                chance.shuffle(lines)
                lines = ["".join(sign if sign.isalnum() or sign == " " else chance.choice([" ", ""]) + sign + " "
                                 for sign in line) for line in lines]
                lines = [" " * chance.randrange(3) + line + " " * chance.randrange(3) for line in lines]
                self.assertEqual(read_schema("\n".join(lines)), schema)

    def test_faults_of_lines(self):
        for line, place in LINES:
            self.assertEqual(fault_of(line), (1, place), repr(line))
            self.assertEqual(fault_of("root a\n\n  \n" + line + "\na = b : empty\n"), (4, place), repr(line))
            self.assertEqual(fault_of("a = a : empty\n" + line), (2, place), repr(line))

    def test_first_fault(self):
        self.assertEqual(fault_of("root a\na = a : empty\na = \nroot\n"), (3, 5))
        self.assertEqual(fault_of("root\na = "), (1, 5))
        # Lines that have the form are no fault, whatever stands there.
        self.assertEqual(fault_of("root a\nroot a\na = a : a\na = a @x @x : z\n\n#"), (6, 1))

    def test_no_schemas(self):
        for text in NO_SCHEMAS:
            self.assertEqual(fault_of(text), (0, 0), repr(text))

    def test_type_called_root(self):
        self.assertEqual(read_schema("root=r:empty\nroot root")["types"], {"root": ("r", (), ("empty",))})
        self.assertEqual(fault_of("root = r : empty"), (0, 0))
        self.assertEqual(fault_of("root root = r : empty"), (1, 11))

    def test_deep_content(self):
        text = "root a\na = a : " + "(" * 3000 + "chars" + ")*" * 3000 + "\n"
        schema = read_schema(text)
        self.assertEqual(print_content(schema["types"]["a"][2]), "chars" + "*" * 3000)
        self.assertIs(is_schema(schema), True)
        self.assertEqual(Grammar(schema).automaton("a"), ((0,), ((0, "char", 0),)))


class GrammarTest(unittest.TestCase):
    def test_methods(self):
        for schema, text in PRINTED:
            grammar = Grammar(schema)
            self.assertEqual(grammar.root, schema["root"])
            self.assertEqual(grammar.types(), sorted(schema["types"]))
            self.assertEqual(grammar.schema(), schema)
            self.assertEqual(print_schema(grammar.schema()), text)
            for kind, (element, attributes, content) in schema["types"].items():
                self.assertEqual(grammar.name_of(kind), element)
                self.assertEqual(grammar.attributes_of(kind), attributes)
                self.assertEqual(grammar.automaton(kind), automaton_of(content))
                finals, edges = automaton_of(content)
                symbols = [*schema["types"], "char"]
                table = {(begin, symbol): end for begin, symbol, end in edges}
                for state in range(8):
                    self.assertIs(grammar.is_final(kind, state), state in finals)
                    for symbol in symbols:
                        self.assertEqual(grammar.step(kind, state, symbol), table.get((state, symbol)))

    def test_child_type(self):
        grammar = Grammar(PRINTED[4][0])
        for kind, element, child in (("r", "x", "a"), ("r", "y", "b"), ("r", "z", None), ("a", "z", "s"),
                                     ("b", "z", "t"), ("s", "z", None), ("a", "s", None), ("r", "r", None)):
            self.assertEqual(grammar.child_type(kind, element), child)

    def test_no_schema(self):
        for value in ODD + [EXAMPLE_TEXT, {"root": "doc", "types": {}}, schema_of("r = r : r"),
                            schema_of("r = r : a", "a = a : b?"), dict(EXAMPLE, more=1)]:
            with self.assertRaises(NotValid):
                Grammar(value)

    def test_too_many_states(self):
        self.assertEqual(Grammar(schema_of("a = a : b" + ", b" * 28, "b = b : empty")).types(), ["a", "b"])
        with self.assertRaises(TooMany):
            Grammar(schema_of("a = a : b" + ", b" * 29, "b = b : empty"))
        with self.assertRaises(TooMany):
            Grammar(schema_of("a = a : b?", "b = b : a?, chars" + ", a, chars" * 40))

    def test_nothing_is_changed_later(self):
        schema = copy.deepcopy(EXAMPLE)
        grammar = Grammar(schema)
        schema["root"] = "item"
        del schema["types"]["item"]
        self.assertEqual((grammar.root, grammar.schema(), grammar.types()), ("doc", EXAMPLE, ["doc", "item"]))
        grammar.schema()["types"].clear()
        grammar.schema()["root"] = "item"
        grammar.types().append("more")
        self.assertEqual((grammar.schema(), grammar.types()), (EXAMPLE, ["doc", "item"]))


if __name__ == "__main__":
    unittest.main()
