"""[26] to [28]: programs, whether they fit a schema, and settled bodies."""

import copy
import unittest

from hewstream.programs import (MOST_ITEMS, MOST_MODES, MOST_NESTED, body_of, fits, is_program, settled, values_named)
from hewstream.schemas import Grammar, read_schema
from samples import Same

ODD = [Same(), (Same(),), (Same(), "a"), (Same(), "x", (), ()), None, True, False, 0, 1, 1.5, "", "start", "m", b"m",
       [], (), {}, {1}, object(), len, ["m"], ("m",)]
NO_NAMES = [Same(), "", "A", "1", "abcdefghi", "a b", "\u00e9", None, 1, True, ["a"], ("a",), b"a", ()]
NO_STRINGS = [Same(), "\t", "\n", "a\tb", "a\n", "%", "\r", "\u00e9", "\x7f", 1, True, ["a"], ("a",), b"a", ()]
EIGHT = tuple((name, (("text", ""),)) for name in "abcdefgh")
NINE = tuple((name, (("text", ""),)) for name in "abcdefghi")
TEXT = ("text", "t")

# Items that are right where the modes are m and k.
ITEMS = [
    ("text", ""), ("text", "abc <&>\"'~"), ("text", "a" * 1000), ("value", "x"), ("value", "abcdefg8"),
    ("make", "b", (), ()), ("make", "b", (("y", (("text", "1"), ("value", "x"))),), (TEXT,)),
    ("make", "b", EIGHT, ()), ("make", "b", (("a", (("text", ""),)), ("a1", (("value", "z"),) * 50)), ()),
    ("each", "m", ("char",)), ("each", "k", ("a", "b", "char", "d")), ("each", "m", ("chars", "empty")),
    ("if", "x", None, (), ()), ("if", "x", "", (TEXT,), ()), ("if", "x", "a b", (), (TEXT, TEXT)),
]
# Parts that are right neither as items nor in the attributes of a make.
NO_PARTS = [("text",), ("text", "a", "b"), ["text", "a"], ("value",), ("value", "x", "y"), ["value", "x"],
            ("text", None), ("Text", "a"), ("", "a"), (1, "a"), (None, "x"), (["text"], "a"), ("name", "x"), "text",
            (Same(), "a")]
NO_PARTS += [("text", value) for value in NO_STRINGS] + [("value", name) for name in NO_NAMES]
# What cannot be the attributes of a make.
NO_ATTRIBUTES = [None, "", [], {}, 1, True, NINE, (("y",),), (("y", ()),), (("y", [TEXT]),), (["y", (TEXT,)],),
                 [("y", (TEXT,))], (("y", (TEXT,), ()),), (("y", TEXT),), (("y", "text"),), (("y", None),), (None,),
                 ((),), ("yz",), (("y", (TEXT,)), ("x", (TEXT,))), (("x", (TEXT,)), ("x", (TEXT,))),
                 (("a", (TEXT,)), ("c", (TEXT,)), ("b", (TEXT,))), (("y", (("each", "m", ("a",)),)),),
                 (("y", (("make", "b", (), ()),)),), (("y", (("if", "x", None, (), ()),)),)]
NO_ATTRIBUTES += [((name, (TEXT,)),) for name in NO_NAMES] + [(("y", (part,)),) for part in NO_PARTS]
NO_ATTRIBUTES += [(("y", (TEXT, part)),) for part in NO_PARTS]
# What cannot be the symbols of an each.
NO_SYMBOLS = [None, "", "char", [], ["char"], {}, 1, True, (), ("b", "a"), ("a", "a"), ("char", "a"), ("a", "c", "b"),
              {"a": 1}]
NO_SYMBOLS += [(name,) for name in NO_NAMES] + [("a", name) for name in NO_NAMES]
NO_BODIES = [None, "", [], [TEXT], {}, 1, True, "text", TEXT]


def spoiled_items():
    rows = list(ODD) + NO_PARTS
    rows += [("make", name, (), ()) for name in NO_NAMES] + [("make", "b", part, ()) for part in NO_ATTRIBUTES]
    rows += [("make", "b", (), body) for body in NO_BODIES]
    rows += [("make",), ("make", "b"), ("make", "b", ()), ("make", "b", (), (), ()), ["make", "b", (), ()]]
    rows += [("each", mode, ("a",)) for mode in NO_NAMES + ["n", "mm"]] + [("each", "m", part) for part in NO_SYMBOLS]
    rows += [("each",), ("each", "m"), ("each", "m", ("a",), ()), ["each", "m", ("a",)], ("each", "m", "a")]
    rows += [("if", name, None, (), ()) for name in NO_NAMES] + [("if", "x", part, (), ()) for part in NO_STRINGS]
    rows += [("if", "x", "", body, ()) for body in NO_BODIES] + [("if", "x", "", (), body) for body in NO_BODIES]
    rows += [("if",), ("if", "x"), ("if", "x", None), ("if", "x", None, ()), ("if", "x", None, (), (), ()),
             ["if", "x", None, (), ()], ("if", "x", (), ()), ("If", "x", None, (), ()), ("else", ()), (),
             ("event", ("signs", "a")), ("lane", "m", ("a",))]
    return rows


def program_of(*items, key=("m", "a")):
    return {"start": "m", "modes": {"m": True, "k": False}, "rules": {key: items}}


def nested(depth, inner=()):
    """A body in which bodies are nested so deep, the inner one being the deepest."""
    for number in range(depth - 1):
        inner = (("make", "b", (), inner),) if number % 3 else (("if", "x", None, (), inner),)
    return inner


class ProgramTest(unittest.TestCase):
    def right(self, value):
        self.assertIs(is_program(value), True, repr(value))

    def wrong(self, value):
        self.assertIs(is_program(value), False, repr(value))

    def test_constants(self):
        self.assertEqual((MOST_MODES, MOST_NESTED, MOST_ITEMS), (8, 6, 60))

    def test_programs(self):
        self.right({"start": "m", "modes": {"m": True}, "rules": {}})
        self.right({"start": "m", "modes": {"k": False, "m": False}, "rules": {("k", "a"): ()}})
        self.right(program_of(*ITEMS))
        for kind in ("a", "char", "empty", "chars", "abcdefgh"):
            self.right(program_of(*ITEMS, key=("k", kind)))

    def test_values_of_other_kinds(self):
        program = program_of(*ITEMS)
        for value in ODD + [[program], (program,), list(program.items()), list(program), "start modes rules"]:
            self.wrong(value)

    def test_keys(self):
        for key in ("start", "modes", "rules"):
            program = program_of(*ITEMS)
            del program[key]
            self.wrong(program)
            program["more"] = program_of(*ITEMS)[key]
            self.wrong(program)
        self.wrong(dict(program_of(*ITEMS), more=1))

    def test_start(self):
        for start in ODD + NO_NAMES + ["n", "mk", "a"]:
            if start != "m":
                self.wrong(dict(program_of(*ITEMS), start=start))

    def test_modes(self):
        for modes in ODD + [["m", "k"], ("m", "k"), "mk", {"m": 1}, {"m": 0}, {"m": None}, {"m": "keeps"}, {"m": ()},
                            {"m": True, "k": 1}]:
            self.wrong({"start": "m", "modes": modes, "rules": {}})
        for name in NO_NAMES:
            if name != ["a"]:
                self.wrong({"start": "m", "modes": {"m": True, name: True}, "rules": {}})

    def test_most_modes(self):
        modes = {"m%d" % number: number % 2 == 0 for number in range(8)}
        self.right({"start": "m7", "modes": dict(modes), "rules": {("m3", "a"): (("each", "m5", ("char",)),)}})
        self.wrong({"start": "m7", "modes": dict(modes, m8=True), "rules": {}})

    def test_rules(self):
        for rules in ODD + [[(("m", "a"), ())], ((("m", "a"), ()),)]:
            if rules != {}:
                self.wrong(dict(program_of(), rules=rules))
        for key in [None, 1, True, "m", "ma", (), ("m",), ("m", "a", "b"), ("n", "a"), ("a", "m"), ("m", ("a",)),
                    (("m",), "a"), b"ma"]:
            self.wrong(program_of(key=key))
        for name in NO_NAMES:
            if name != ["a"]:
                self.wrong(program_of(key=("m", name)))
                self.wrong(program_of(key=(name, "a")))

    def test_bodies(self):
        for body in NO_BODIES + ODD:
            if body != ():
                self.wrong(dict(program_of(), rules={("m", "a"): body}))
                self.wrong(dict(program_of(), rules={("k", "a"): (TEXT,), ("m", "a"): body}))

    def test_items(self):
        for item in ITEMS:
            self.right(program_of(item))
            for body in self.bodies_with(item):
                self.right(program_of(*body))

    def test_spoiled_items(self):
        for item in spoiled_items():
            self.wrong(program_of(item))
            for body in self.bodies_with(item):
                self.wrong(program_of(*body))

    def bodies_with(self, item):
        return [(TEXT, item), (item, TEXT), (("make", "b", (), (TEXT, item)),), (("if", "x", None, (item,), ()),),
                (("if", "x", "1", (TEXT,), (TEXT, item)),), (TEXT, *nested(5, (item,))), nested(5, (TEXT, item))]

    def test_most_attributes(self):
        self.right(program_of(("make", "b", EIGHT, ())))
        self.wrong(program_of(("make", "b", NINE, ())))

    def test_most_nested(self):
        self.right(program_of(*nested(6, (TEXT,))))
        self.right(program_of(*nested(6)))
        self.wrong(program_of(*nested(7, (TEXT,))))
        # Bodies without items count as well.
        self.wrong(program_of(*nested(7)))
        self.wrong(program_of(*nested(6, (("make", "b", (), ()),))))
        self.wrong(program_of(*nested(6, (("if", "x", None, (), ()),))))
        self.right(program_of(*nested(5, (("if", "x", None, (TEXT,), (TEXT,)),))))
        self.wrong(program_of(*nested(5, (("if", "x", None, (TEXT,), nested(2)),))))
        self.wrong(program_of(*nested(5, (("if", "x", None, nested(2), (TEXT,)),))))
        self.assertIs(is_program(program_of(*nested(50000))), False)

    def test_most_items(self):
        self.right(program_of(*[TEXT] * 60))
        self.wrong(program_of(*[TEXT] * 61))
        # Those of inner bodies are counted, parts of attributes are not.
        made = ("make", "b", (("y", (TEXT,) * 70),), (TEXT,) * 20)
        asked = ("if", "x", None, (TEXT,) * 10, (TEXT,) * 10)
        self.right(program_of(made, asked, *[TEXT] * 18))
        self.wrong(program_of(made, asked, *[TEXT] * 19))
        self.wrong(program_of(("make", "b", (), (TEXT,) * 60)))
        self.right(program_of(("make", "b", (), (TEXT,) * 59)))
        self.wrong(program_of(("if", "x", None, (TEXT,) * 30, (TEXT,) * 30)))
        self.right(program_of(("if", "x", None, (TEXT,) * 30, (TEXT,) * 29)))
        # Each rule has its own.
        rules = {("m", kind): (TEXT,) * 60 for kind in "abc"}
        self.right(dict(program_of(), rules=rules))
        rules["k", "a"] = (TEXT,) * 61
        self.wrong(dict(program_of(), rules=rules))

    def test_nothing_is_changed(self):
        program = program_of(*ITEMS)
        kept = copy.deepcopy(program)
        is_program(program)
        values_named(body_of(program, "m", "a"))
        self.assertEqual(program, kept)


class FitsTest(unittest.TestCase):
    GRAMMAR = Grammar(read_schema("root a\na = e @x @y! : b | chars\nb = f @z : chars\n"))

    def check(self, items, other):
        """The items fit as a rule of a, and at any depth; the others do not."""
        for body, expected in ((items, True), (other, False)):
            for around in (body, (TEXT, *body), (("make", "b", (), body),), (("if", "x", None, body, ()),),
                           (("if", "y", "1", (), body),), nested(5, body)):
                program = program_of(*around)
                self.assertIs(is_program(program), True)
                self.assertIs(fits(program, self.GRAMMAR), expected, around)

    def test_types_of_rules(self):
        for kind, expected in (("a", True), ("b", True), ("c", False), ("e", False), ("f", False), ("char", False),
                               ("m", False)):
            self.assertIs(fits(program_of(key=("m", kind)), self.GRAMMAR), expected, kind)
            program = program_of()
            program["rules"]["k", kind] = (TEXT,)
            self.assertIs(fits(program, self.GRAMMAR), expected, kind)
        self.assertIs(fits({"start": "m", "modes": {"m": True}, "rules": {}}, self.GRAMMAR), True)

    def test_symbols(self):
        for name in ("a", "b", "char"):
            for other in ("c", "e", "f", "empty", "chars", "x"):
                self.check((("each", "k", (name,)),), (("each", "k", tuple(sorted([name, other]))),))

    def test_values(self):
        for name in ("x", "y"):
            for other in ("z", "e", "a", "w"):
                self.check((("value", name),), (("value", other),))

    def test_ifs(self):
        for name in ("x", "y"):
            for string in (None, "", "1"):
                self.check((("if", name, string, (), ()),), (("if", "z", string, (), ()),))

    def test_values_in_attributes(self):
        for name in ("x", "y"):
            good = (("p", (("text", "z"), ("value", name))), ("q", (("value", "x"),)))
            for other in ("z", "w"):
                bad = (("p", (("value", name), ("value", other))),)
                self.check((("make", "z", good, ()),), (("make", "b", bad, ()),))
                self.check((("make", "z", good, ()),), (("make", "b", good[:1] + (("q", (("value", other),)),), ()),))

    def test_attributes_are_those_of_the_type_of_the_rule(self):
        for item in (("value", "z"), ("if", "z", None, (), ()), ("make", "b", (("p", (("value", "z"),)),), ())):
            self.assertIs(fits(program_of(item, key=("m", "b")), self.GRAMMAR), True)
            self.assertIs(fits(program_of(item, key=("m", "a")), self.GRAMMAR), False)
            program = program_of(key=("m", "a"))
            program["rules"]["m", "b"] = (item,)
            self.assertIs(fits(program, self.GRAMMAR), True)

    def test_names_of_makes_and_modes_are_free(self):
        program = {"start": "zz", "modes": {"zz": True}, "rules": {("zz", "a"): (
            ("make", "other", (("more", (TEXT,)),), (("each", "zz", ("b",)),)),)}}
        self.assertIs(fits(program, self.GRAMMAR), True)


class SettledTest(unittest.TestCase):
    def signs(self, *strings):
        return tuple(("event", ("signs", string)) for string in strings)

    def test_example(self):
        body = (("make", "b", (("y", (("text", "1"), ("value", "x"))),), (("each", "m", ("char",)),)),)
        self.assertEqual(settled(body, (("x", "2"),)), (
            ("event", ("start", "b", (("y", "12"),))), ("lane", "m", ("char",)), ("event", ("end", "b"))))

    def test_empty(self):
        self.assertEqual(settled((), ()), ())
        self.assertEqual(settled((), (("x", "1"),)), ())

    def test_texts_and_values(self):
        body = (("text", "ab"), ("value", "x"), ("text", ""), ("value", "y"), ("text", "c"), ("value", "x"))
        self.assertEqual(settled(body, (("x", "1"), ("y", "2"))), self.signs("ab", "1", "2", "c", "1"))
        self.assertEqual(settled(body, (("x", "<\n"), ("y", ""))), self.signs("ab", "<\n", "c", "<\n"))
        self.assertEqual(settled(body, (("y", "2"),)), self.signs("ab", "2", "c"))
        self.assertEqual(settled(body, ()), self.signs("ab", "c"))
        self.assertEqual(settled((("text", ""), ("value", "x")), (("x", ""),)), ())

    def test_lanes(self):
        body = (("each", "m", ("a", "char")), ("text", "-"), ("each", "k", ("b",)), ("each", "m", ("a", "char")))
        self.assertEqual(settled(body, ()), (
            ("lane", "m", ("a", "char")), *self.signs("-"), ("lane", "k", ("b",)), ("lane", "m", ("a", "char"))))

    def test_makes(self):
        body = (("make", "b", (), ()), ("make", "c", (("p", (("text", "1"),)), ("q", (("value", "x"),))), (
            ("text", "t"), ("make", "d", (("r", (("value", "y"), ("text", ""), ("value", "x"), ("text", "2"))),), ()),
            ("value", "x"))), ("text", "u"))
        for attributes, first, second in (
                ((("x", "v"),), "v", "v2"), ((), "", "2"), ((("x", ""), ("y", "w")), "", "w2"),
                ((("x", "a"), ("y", "b")), "a", "ba2")):
            self.assertEqual(settled(body, attributes), (
                ("event", ("start", "b", ())), ("event", ("end", "b")),
                ("event", ("start", "c", (("p", "1"), ("q", first)))), *self.signs("t"),
                ("event", ("start", "d", (("r", second),))), ("event", ("end", "d")),
                *self.signs(*([first] if first else [])), ("event", ("end", "c")), *self.signs("u")))

    def test_ifs(self):
        body = (("if", "x", None, (("text", "there"),), (("text", "not"),)),
                ("if", "x", "", (("text", "empty"),), (("text", "full"),)),
                ("if", "x", "1", (("text", "one"), ("text", "1")), ()),
                ("if", "y", "1", (), (("text", "other"),)))
        self.assertEqual(settled(body, ()), self.signs("not", "full", "other"))
        self.assertEqual(settled(body, (("x", ""),)), self.signs("there", "empty", "other"))
        self.assertEqual(settled(body, (("x", "1"),)), self.signs("there", "full", "one", "1", "other"))
        self.assertEqual(settled(body, (("x", "11"), ("y", "1"))), self.signs("there", "full"))
        self.assertEqual(settled(body, (("x", "2"), ("y", ""))), self.signs("there", "full", "other"))

    def test_nested_ifs(self):
        lane = ("each", "m", ("a",))
        body = (("if", "x", None, (("make", "b", (), (("if", "y", "1", (lane,), (("text", "n"),)), ("text", "e"))),),
                 (("if", "y", "1", (("text", "y"), lane), ()),)), ("text", "z"))
        start, end = ("event", ("start", "b", ())), ("event", ("end", "b"))
        part = ("lane", "m", ("a",))
        self.assertEqual(settled(body, (("x", ""), ("y", "1"))), (start, part, *self.signs("e"), end, *self.signs("z")))
        self.assertEqual(settled(body, (("x", ""),)), (start, *self.signs("n", "e"), end, *self.signs("z")))
        self.assertEqual(settled(body, (("y", "1"),)), (*self.signs("y"), part, *self.signs("z")))
        self.assertEqual(settled(body, ()), self.signs("z"))

    def test_body_of(self):
        program = {"start": "m", "modes": {"m": True, "k": False},
                   "rules": {("m", "a"): (TEXT,), ("k", "a"): (("value", "x"),), ("m", "b"): ()}}
        self.assertEqual(body_of(program, "m", "a"), (TEXT,))
        self.assertEqual(body_of(program, "k", "a"), (("value", "x"),))
        self.assertEqual(body_of(program, "m", "b"), ())
        self.assertEqual(body_of(program, "k", "b"), ())
        self.assertEqual(body_of(program, "m", "c"), ())

    def test_values_named(self):
        self.assertEqual(values_named(()), {})
        self.assertEqual(values_named((TEXT, ("value", "x"), ("make", "b", (("y", (("value", "z"),)),), ()))), {})
        body = (("if", "x", "b", (("if", "y", None, (), ()),), (("if", "x", "a", (), ()),)),
                ("make", "b", (), (("if", "x", "b", (), (("if", "z", "", (), (("if", "x", "ab", (), ()),)),)),)),
                ("if", "x", None, (), ()), ("if", "w", "2", (("if", "w", "1", (), ()),), ()))
        self.assertEqual(values_named(body), {"x": ["a", "ab", "b"], "y": [], "z": [""], "w": ["1", "2"]})


if __name__ == "__main__":
    unittest.main()
