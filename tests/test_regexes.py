"""[10] to [12]: contents, their texts and their printed form."""

import random
import unittest

from hewstream.errors import BadText
from hewstream.regexes import is_content, is_type_name, names_in, print_content, read_content
from samples import A, B, C, CHARS, D, EMPTY, ODD_CONTENTS, random_content, spoiled_contents

# Contents with their printed forms.
PRINTED = [
    (EMPTY, "empty"),
    (CHARS, "chars"),
    (A, "a"),
    (("type", "abcdefg8"), "abcdefg8"),
    (("type", "root"), "root"),
    (("seq", (A, B)), "a, b"),
    (("seq", (A, B, A, EMPTY)), "a, b, a, empty"),
    (("or", (A, B)), "a | b"),
    (("or", (A, CHARS, C)), "a | chars | c"),
    (("star", A), "a*"),
    (("plus", CHARS), "chars+"),
    (("maybe", EMPTY), "empty?"),
    (("star", ("plus", ("maybe", A))), "a?+*"),
    (("star", ("star", A)), "a**"),
    (("star", ("seq", (A, B))), "(a, b)*"),
    (("plus", ("or", (A, B))), "(a | b)+"),
    (("maybe", ("star", ("or", (A, B)))), "(a | b)*?"),
    (("seq", (A, ("seq", (B, C)))), "a, (b, c)"),
    (("seq", (("seq", (A, B)), C)), "(a, b), c"),
    (("seq", (("or", (A, B)), C)), "(a | b), c"),
    (("seq", (A, ("star", ("or", (B, C))), CHARS)), "a, (b | c)*, chars"),
    (("or", (("seq", (A, B)), C)), "a, b | c"),
    (("or", (A, ("seq", (B, C)))), "a | b, c"),
    (("or", (("or", (A, B)), C)), "(a | b) | c"),
    (("or", (A, ("or", (B, C)))), "a | (b | c)"),
    (("or", (("star", A), ("seq", (("plus", B), ("maybe", C))))), "a* | b+, c?"),
    (("or", (("seq", (("or", (A, B)), C)), ("seq", (A, ("seq", (B, D)))))), "(a | b), c | a, (b, d)"),
    (("maybe", ("seq", (("star", ("seq", (A, B))), ("or", (EMPTY, ("or", (A, B))))))),
     "((a, b)*, (empty | (a | b)))?"),
]

# Texts that are not the printed form, with their contents.
WRITTEN = [
    ("  a", A), ("a  ", A), ("(a)", A), ("((a))", A), (" ( ( a ) ) ", A), ("a *", ("star", A)),
    ("(a)*", ("star", A)), ("(a*)+", ("plus", ("star", A))), ("a  * +", ("plus", ("star", A))),
    ("a,b", ("seq", (A, B))), ("a ,b", ("seq", (A, B))), ("(a,b)", ("seq", (A, B))), ("(a),(b)", ("seq", (A, B))),
    ("a|b", ("or", (A, B))), ("(a|b)", ("or", (A, B))), ("a,b|c,d", ("or", (("seq", (A, B)), ("seq", (C, D))))),
    ("(a,b)|(c,d)", ("or", (("seq", (A, B)), ("seq", (C, D))))),
    ("a|b,c|d", ("or", (A, ("seq", (B, C)), D))), ("a|b*,c", ("or", (A, ("seq", (("star", B), C))))),
    ("a,(b|c)", ("seq", (A, ("or", (B, C))))), ("(a,b,c),d", ("seq", (("seq", (A, B, C)), D))),
    ("a,b*", ("seq", (A, ("star", B)))), ("a|b+", ("or", (A, ("plus", B)))),
    ("empty|chars", ("or", (EMPTY, CHARS))), ("( empty )?", ("maybe", EMPTY)),
    ("((a|b),c)", ("seq", (("or", (A, B)), C))), ("a,(b)", ("seq", (A, B))), ("(a|(b))", ("or", (A, B))),
]

# Texts that are no content, with the place of the fault.
FAULTS = [
    ("", 1), ("   ", 4), ("a,", 3), ("a, ", 4), ("a |", 4), ("(a", 3), ("(", 2), ("((a)", 5), ("a, (b ", 7),
    ("a,(b|", 6), ("*", 1), ("+a", 1), ("?", 1), (",a", 1), ("|a", 1), (")", 1), ("a)", 2), ("(a))", 4), ("()", 2),
    ("a,,b", 3), ("a,|b", 3), ("a||b", 3), ("a, *", 4), ("(*a)", 2), ("(a,)", 4), ("(|a)", 2), ("a b", 3),
    ("a  (b)", 4), ("a(b)", 2), ("(a)b", 4), ("(a b)", 4), ("(a (b))", 4), ("((a,b) c)", 8), ("(a#)", 3),
    ("(ab", 4), ("a* b", 4), ("a*b", 3), ("a empty", 3), ("a,b c", 5),
    ("char", 1), ("a, char", 4), ("(char)", 2), ("1a", 1), ("a|1", 3), ("abcdefghi", 1), ("a,abcdefghi*", 3),
    ("a,(b| 0)", 7), ("emptychars", 1), ("a char", 3), ("a 1", 3), ("a abcdefghi", 3),
    ("A", 1), ("aB", 2), ("a_b", 2), ("a,#", 3), ("a#", 2), ("a;b", 2), ("a\tb", 2), ("a,\tb", 3), ("\na", 1),
    ("a\n", 2), ("a,\u00e9", 3), ("a\u00e9", 2), ("a\u0663", 2), ("a.b", 2), ("[a]", 1), ("a-b", 2), ("a&b", 2),
]


def fault_of(text):
    try:
        read_content(text)
    except BadText as fault:
        return fault.line, fault.place
    return None


def spaced(chance, text):
    """The text with other spaces between its parts."""
    words = []
    for sign in text:
        if sign in " ,|*+?()":
            words.append(" " * chance.randrange(3) + sign.strip() + " " * chance.randrange(3))
        else:
            words.append(sign)
    return "".join(words)


class FormsTest(unittest.TestCase):
    def test_type_names(self):
        for name in ("a", "root", "char2", "chars1", "emptya", "abcdefgh", "type", "a0"):
            self.assertIs(is_type_name(name), True, name)
        for name in ("empty", "chars", "char", "", "A", "1", "abcdefghi", "a b", "a%", "\u00e9", *[
                value for value in ODD_CONTENTS if value != "a"]):
            self.assertIs(is_type_name(name), False, repr(name))

    def test_contents(self):
        for content, _ in PRINTED:
            self.assertIs(is_content(content), True, content)

    def test_spoiled(self):
        for content in spoiled_contents():
            self.assertIs(is_content(content), False, repr(content))
            for around in (("star", content), ("plus", content), ("maybe", content), ("seq", (content, A)),
                           ("seq", (A, content)), ("or", (content, A)), ("or", (A, B, content)),
                           ("seq", (A, ("or", (B, ("maybe", content)))))):
                self.assertIs(is_content(around), False, repr(around))

    def test_names_in(self):
        for content, names in ((EMPTY, []), (CHARS, []), (B, ["b"]), (("seq", (C, B, ("star", C), A)), ["a", "b", "c"]),
                               (("or", (("maybe", ("seq", (B, CHARS))), ("plus", ("type", "b1")))), ["b", "b1"])):
            self.assertEqual(names_in(content), names)

    def test_deep(self):
        content = A
        for _ in range(50000):
            content = ("star", content)
        self.assertIs(is_content(content), True)
        self.assertEqual(names_in(content), ["a"])
        self.assertEqual(print_content(content), "a" + "*" * 50000)
        self.assertEqual(print_content(read_content("a" + "+" * 50000)), "a" + "+" * 50000)
        self.assertEqual(read_content("(" * 50000 + "a" + ")" * 50000), A)


class TextsTest(unittest.TestCase):
    def test_example(self):
        self.assertEqual(read_content("a, (b | c)*, chars"), (
            "seq", (("type", "a"), ("star", ("or", (("type", "b"), ("type", "c")))), ("chars",))))

    def test_printed_forms(self):
        for content, text in PRINTED:
            self.assertEqual(print_content(content), text)
            self.assertEqual(read_content(text), content)

    def test_written_otherwise(self):
        for text, content in WRITTEN:
            self.assertEqual(read_content(text), content, text)

    def test_reading_again(self):
        chance = random.Random(2)
        for _ in range(1000):
            content = random_content(chance, 4)
            text = print_content(content)
            self.assertEqual(read_content(text), content)
            self.assertEqual(read_content(spaced(chance, text)), content)
            self.assertEqual(read_content(text.replace(" ", "")), content)
            self.assertEqual(read_content("((" + text + "))"), content)

    def test_faults(self):
        for text, place in FAULTS:
            self.assertEqual(fault_of(text), (1, place), repr(text))

    def test_faults_behind_other_parts(self):
        for begin in ("a, ", "a | ", "(a, b) | ", "a*, chars | "):
            for text, place in FAULTS:
                self.assertEqual(fault_of(begin + text), (1, len(begin) + place), repr(begin + text))


if __name__ == "__main__":
    unittest.main()
