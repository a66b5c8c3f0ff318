"""[29], [30], [31]: the texts of programs, their first faults, and their printed form."""

import random
import re
import unittest

from hewstream.errors import BadText
from hewstream.programs import is_program
from hewstream.schemas import Grammar, is_schema
from hewstream.syntax import parse_program, print_program
from program_oracle import random_program
from schema_oracle import random_schema, small_content

# The forms of the document: a word in quotes is a mark or a word, NAME and STRING are tokens.
FORMS = {
    "PROGRAM": ["'start' NAME MODES RULES"],
    "MODES": ["", "'mode' NAME KEEPS MODES"],
    "KEEPS": ["'keeps'", "'drops'"],
    "RULES": ["", "'rule' NAME NAME BODY RULES"],
    "BODY": ["'{' ITEMS '}'"],
    "ITEMS": ["", "ITEM ITEMS"],
    "ITEM": ["PART", "'make' NAME BODY", "'make' NAME '(' ATTRIBUTES ')' BODY", "'each' NAME '(' SYMBOLS ')'",
             "'if' '@' NAME TEST BODY ELSE"],
    "TEST": ["", "'=' STRING"],
    "ELSE": ["", "'else' BODY"],
    "ATTRIBUTES": ["ATTRIBUTE", "ATTRIBUTE ',' ATTRIBUTES"],
    "ATTRIBUTE": ["NAME '=' PARTS"],
    "PARTS": ["PART", "PART '+' PARTS"],
    "PART": ["STRING", "'@' NAME"],
    "SYMBOLS": ["NAME", "NAME ',' SYMBOLS"],
}
TOKEN = re.compile(r'[a-z][a-z0-9]*|"(?:[^"\\\t\n%]|\\["\\])*"|[{}(),=+@]')
WHOLE = """start m
mode m keeps
mode k drops
rule m a { "x" @ y make b { } make c ( p = "1" + @ y , q = @ z ) { each m ( char , a ) "" } }
rule k a { if @ y = "v" { @ y } if @ z { } else { make d { "w" } } each k ( b ) }
rule k b { }
"""
# Words that are names, too.
WORDS = """start else mode else keeps mode start drops mode if keeps rule if make { make each { each start ( mode , rule
) } if @ else = "" { } else { @ if } make make ( else = @ make , if = "" + @ each ) { each else ( each , else , if ) } }
rule else rule { if @ keeps { } }"""


def words_of(text):
    """The tokens as they stand, and their places."""
    return [(found.group(), found.start()) for found in TOKEN.finditer(text)]


def expanded(rows):
    """All that the stacks can become until a token stands on top of each one."""
    found = []
    todo = list(rows)
    while todo:
        stack = todo.pop()
        if stack and stack[0] in FORMS:
            todo.extend(tuple(form.split()) + stack[1:] for form in FORMS[stack[0]])
        else:
            found.append(stack)
    return found


def can_be(word, due):
    if due == "NAME":
        return re.fullmatch("[a-z][a-z0-9]{0,7}", word) is not None
    return word[:1] == '"' if due == "STRING" else due == f"'{word}'"


def first_wrong(words):
    """The index of the first token that cannot stand there; their number if the end cannot; -1 if all is right."""
    rows = expanded([("PROGRAM",)])
    opened = 0
    for index, word in enumerate(words):
        rows = expanded(stack[1:] for stack in rows if stack and can_be(word, stack[0]))
        opened += {"{": 1, "}": -1}.get(word, 0)
        if not rows or opened > 40:
            return index
    return -1 if () in rows else len(words)


def line_and_place(text, index):
    return text.count("\n", 0, index) + 1, index - text.rfind("\n", 0, index)


def nested_text(many):
    """A rule in which so many { are open, all but the first one of makes and ifs."""
    words = ["make b {", "if @ x {", 'if @ x = "1" { } else {']
    return "start m mode m keeps rule m a { " + " ".join(words[k % 3] for k in range(many - 1)) + " }" * many


class FaultCase(unittest.TestCase):
    def fault(self, text, line, place):
        with self.assertRaises(BadText) as caught:
            parse_program(text)
        self.assertEqual((caught.exception.line, caught.exception.place), (line, place), text)


class ParseTest(FaultCase):
    def test_example(self):
        self.assertEqual(parse_program("start m mode m keeps rule m a { make b { each m ( char ) } }"), {
            "start": "m", "modes": {"m": True}, "rules": {("m", "a"): (("make", "b", (), (("each", "m", ("char",)),)),)}})

    def test_forms(self):
        made = ("make", "c", (("p", (("text", "1"), ("value", "y"))), ("q", (("value", "z"),))),
                (("each", "m", ("a", "char")), ("text", "")))
        self.assertEqual(parse_program(WHOLE), {"start": "m", "modes": {"m": True, "k": False}, "rules": {
            ("m", "a"): (("text", "x"), ("value", "y"), ("make", "b", (), ()), made),
            ("k", "a"): (("if", "y", "v", (("value", "y"),), ()),
                         ("if", "z", None, (), (("make", "d", (), (("text", "w"),)),)), ("each", "k", ("b",))),
            ("k", "b"): ()}})

    def test_modes_and_rules(self):
        self.assertEqual(parse_program("start m mode m keeps"), {"start": "m", "modes": {"m": True}, "rules": {}})
        self.assertEqual(parse_program("start m mode k drops mode m drops rule k b { } rule m b { } rule m a { }"), {
            "start": "m", "modes": {"k": False, "m": False}, "rules": {("k", "b"): (), ("m", "b"): (), ("m", "a"): ()}})

    def test_words_as_names(self):
        self.assertEqual(parse_program(WORDS), {
            "start": "else", "modes": {"else": True, "start": False, "if": True}, "rules": {
                ("if", "make"): (
                    ("make", "each", (), (("each", "start", ("mode", "rule")),)),
                    ("if", "else", "", (), (("value", "if"),)),
                    ("make", "make", (("else", (("value", "make"),)), ("if", (("text", ""), ("value", "each")))),
                     (("each", "else", ("each", "else", "if")),))),
                ("else", "rule"): (("if", "keeps", None, (), ()),)}})

    def test_a_name_behind_a_body_is_no_else(self):
        # An else belongs to the if before it; anywhere else the word can stand only where a name is asked for.
        text = "start m mode m keeps rule m a { if @ x { } make else { } }"
        self.assertEqual(parse_program(text)["rules"]["m", "a"], (("if", "x", None, (), ()), ("make", "else", (), ())))
        self.fault("start m mode m keeps rule m a { make b { } else { } }", 1, 44)
        self.fault("start m mode m keeps rule m a { if @ x { } else { } else { } }", 1, 53)

    def test_strings_are_no_words(self):
        for text, place in (('"start" m mode m keeps', 1), ('start m "mode" m keeps', 9), ('start m mode m "keeps"', 16),
                            ('start m mode m keeps "rule" m a { }', 22), ('start "m" mode m keeps', 7),
                            ('start m mode m keeps rule m a { if @ x { } "else" { } }', 51)):
            self.fault(text, 1, place)
        body = parse_program('start m mode m keeps rule m a { "make" "each" if @ x { } "else" "if" }')["rules"]["m", "a"]
        self.assertEqual(body, (("text", "make"), ("text", "each"), ("if", "x", None, (), ()), ("text", "else"), ("text", "if")))

    def test_blanks(self):
        for text in (WHOLE, WORDS):
            words = [word for word, _ in words_of(text)]
            program = parse_program(text)
            for between in (" ", "\n", "\t", "  ", " \n\t", "\n\n"):
                self.assertEqual(parse_program(between.join(words)), program)
                self.assertEqual(parse_program(between + between.join(words) + between), program)
            # Only two names need something between them.
            close = words[0]
            for before, word in zip(words, words[1:]):
                close += (" " if before[0].isalnum() and word[0].isalnum() else "") + word
            self.assertEqual(parse_program(close), program)

    def test_order_of_attributes_and_symbols(self):
        program = parse_program("start m mode m keeps rule m a { make b ( x = @ z , y = \"1\" ) { each m ( a , b , char ) } }")
        text = "start m mode m keeps rule m a { make b ( y = \"1\" , x = @ z ) { each m ( char , a , b ) } }"
        self.assertEqual(parse_program(text), program)
        self.assertEqual(program["rules"]["m", "a"][0][2:], (
            (("x", (("value", "z"),)), ("y", (("text", "1"),))), (("each", "m", ("a", "b", "char")),)))

    def test_strings(self):
        for written, string in (("", ""), ("a b", "a b"), ('\\"', '"'), ("\\\\", "\\"), ('\\\\\\"', '\\"'),
                                ("{ } @ rule ' <&>", "{ } @ rule ' <&>"), ("\\\\n", "\\n"), ("~!", "~!")):
            for text in ('"' + written + '"', 'if @ x = "' + written + '" { }'):
                item = parse_program("start m mode m keeps rule m a { " + text + " }")["rules"]["m", "a"][0]
                self.assertEqual(item[1] if item[0] == "text" else item[2], string)

    def test_no_program(self):
        good = 'start m mode m keeps rule m a { make b ( x = "1" ) { each m ( char ) } }'
        self.assertTrue(is_program(parse_program(good)))
        for old, new in (("start m", "start k"), ("rule m", "rule k"), ("each m", "each k"), ("mode m keeps", ""),
                         ("mode m keeps", "mode m keeps mode m keeps"), ("mode m keeps", "mode m keeps mode m drops"),
                         ("rule m", "rule m a { } rule m"), ('"1"', '"1" , x = "1"'), ("char )", "char , char )"),
                         ("( char", "( a , char , a"), ("mode m", "".join(f"mode m{k} keeps " for k in range(8)) + "mode m")):
            self.assertIn(old, good)
            self.fault(good.replace(old, new), 0, 0)
        many = " , ".join(f'x{k} = "1"' for k in range(9))
        self.fault(good.replace('x = "1"', many), 0, 0)
        self.assertEqual(len(parse_program(good.replace('x = "1"', many[11:]))["rules"]["m", "a"][0][2]), 8)
        items = "start m mode m keeps rule m a { " + '"x" ' * 60 + "}"
        self.assertEqual(len(parse_program(items)["rules"]["m", "a"]), 60)
        self.fault(items.replace("}", '"x" }'), 0, 0)

    def test_open_brackets(self):
        self.assertEqual(len(parse_program(nested_text(6))["rules"]), 1)
        for many in (7, 39, 40):
            self.fault(nested_text(many), 0, 0)
        for many in (41, 42, 50):
            text = nested_text(many)
            # Of the bodies of ifs with an else, one before it has been closed.
            index = [index for word, index in words_of(text)][first_wrong([word for word, _ in words_of(text)])]
            self.assertEqual(text[index], "{")
            self.fault(text, *line_and_place(text, index))
        text = "start m mode m keeps rule m a " + "{ make b " * 40
        self.fault(text + "{", 1, len(text) + 1)
        self.fault(text + "( x = @ y ) {", 1, len(text) + 13)
        self.fault(text + '"', 1, len(text) + 1)
        self.fault(text, 1, len(text) + 1)

    def test_a_form_fault_comes_first(self):
        # What makes it no program stands before the fault of a form.
        self.fault("start k mode m keeps mode m keeps rule m a { each m ( a , a ) make b }", 1, 70)


class FaultTest(FaultCase):
    """The first fault is that of the forms, token by token."""

    def check(self, text, words):
        """The text has just these tokens, whatever they are."""
        wrong = first_wrong([word for word, _ in words])
        if wrong == len(words):
            self.fault(text, *line_and_place(text, len(text)))
        elif wrong >= 0:
            self.fault(text, *line_and_place(text, words[wrong][1]))
        else:
            try:
                self.assertTrue(is_program(parse_program(text)))
            except BadText as fault:
                self.assertEqual((fault.line, fault.place), (0, 0), text)
        return wrong

    def test_spoiled_tokens(self):
        others = ["start", "mode", "keeps", "rule", "make", "each", "if", "else", "m", '"s"', *"{}(),=+@"]
        told = set()
        for text in (WHOLE, WORDS):
            words = words_of(text)
            for index, (word, place) in enumerate(words):
                end = place + len(word)
                for new in ["", word + " " + word, *others, *[word + " " + other for other in others]]:
                    spoiled = text[:place] + new + text[end:]
                    told.add(self.check(spoiled, words_of(spoiled)) >= 0)
                told.add(self.check(text[:place], words_of(text[:place])) >= 0)
                told.add(self.check(text[:end], words_of(text[:end])) >= 0)
        self.assertEqual(told, {True, False})

    def test_signs_that_begin_no_token(self):
        for text in (WHOLE, WORDS):
            for word, place in words_of(text):
                for sign in "%AZ_-<>!;:[]|&*/\\'#$^~`?.\r\x00\x7f\u00e9" + "019":
                    wrong = first_wrong([before for before, at in words_of(text[:place])])
                    spoiled = text[:place] + sign + " " + text[place:]
                    self.assertIn(wrong, (-1, len(words_of(text[:place]))))
                    self.fault(spoiled, *line_and_place(spoiled, place))
        self.fault("start M", 1, 7)
        self.fault("start mM mode m keeps", 1, 8)
        # A token that cannot stand there comes before the sign.
        self.fault("start { %", 1, 7)

    def test_long_words(self):
        for text in (WHOLE, WORDS):
            for word, place in words_of(text):
                if word[0].isalpha():
                    spoiled = text[:place] + (word + "abcdefgh")[:8] + "9" + text[place + len(word):]
                    self.fault(spoiled, *line_and_place(spoiled, place))
        self.assertEqual(parse_program("start abcdefgh mode abcdefgh keeps")["start"], "abcdefgh")
        self.fault("start abcdefgh mode abcdefghi keeps", 1, 21)
        self.fault("start m9m9m9m90", 1, 7)

    def test_strings(self):
        for text in (WHOLE, WORDS):
            for word, place in words_of(text):
                if word[0] != '"':
                    continue
                end = place + len(word)
                for inner in ("\t", "\n", "%", "\r", "\x1f", "\x7f", "\u00e9", "\\n", "\\a", "\\ ", "\\'", "\\\n",
                              "a\t", '\\"\n', '\\\\\n', "\\{"):
                    for before in ("", "a", "ab c", '\\"', "\\\\"):
                        spoiled = text[:place] + '"' + before + inner + text[end - 1:]
                        self.fault(spoiled, *line_and_place(spoiled, place))
                for inner in ("", "a", "\\", "a\\", '\\"', "\\\\", "\\\\\\", "a } {"):
                    self.fault(text[:place] + '"' + inner, *line_and_place(text, place))
        start = "start m mode m keeps rule m a {\n "
        self.fault(start + '"', 2, 2)
        self.fault(start + '"abc } ', 2, 2)
        self.fault(start + '"abc\\"', 2, 2)
        self.fault(start + '"a" "b\nc"', 2, 6)

    def test_ends(self):
        for text in ("", " ", "\n", "start", "start\n", "start m mode", "start m\n\n  mode m", "start m mode m keeps rule",
                     "start m mode m keeps rule m a", "start m mode m keeps rule m a {", "start m mode m keeps rule m a { @",
                     "start m mode m keeps rule m a {\n\t \n"):
            for behind in ("", " ", "\n", "\t", "  \n ", "\n\n\n"):
                self.fault(text + behind, *line_and_place(text + behind, len(text + behind)))
        self.fault("", 1, 1)
        self.fault("start\n", 2, 1)
        self.fault("start m mode\n\n  ", 3, 3)

    def test_lines(self):
        self.fault("start m\nmode m keeps\nrule m a { }\n\n  mode k keeps", 5, 3)
        self.fault("start m\nmode m keeps\nrule m a {\n\t\t+ }", 4, 3)


class PrintTest(unittest.TestCase):
    def test_printed_form(self):
        self.assertEqual(print_program(parse_program(WHOLE)), """start m
mode k drops
mode m keeps
rule k a { if @ y = "v" { @ y } if @ z { } else { make d { "w" } } each k ( b ) }
rule k b { }
rule m a { "x" @ y make b { } make c ( p = "1" + @ y , q = @ z ) { each m ( a , char ) "" } }
""")

    def test_example(self):
        text = "start m\nmode m keeps\nrule m a { make b { each m ( char ) } }\n"
        self.assertEqual(print_program(parse_program(text.replace("\n", " "))), text)

    def test_no_rules(self):
        self.assertEqual(print_program({"start": "m", "modes": {"m": False}, "rules": {}}), "start m\nmode m drops\n")

    def test_strings(self):
        program = {"start": "m", "modes": {"m": True}, "rules": {("m", "a"): (
            ("text", '"\\'), ("if", "x", '\\"a\\\\', (), (("text", ""),)),
            ("make", "b", (("y", (("text", '"'),)),), ()))}}
        text = print_program(program)
        self.assertEqual(text.split("\n")[2], 'rule m a { "\\"\\\\" if @ x = "\\\\\\"a\\\\\\\\" { } else { "" } '
                                              'make b ( y = "\\"" ) { } }')
        self.assertEqual(parse_program(text), program)

    def test_random_programs(self):
        chance = random.Random(29)
        for _ in range(300):
            program = random_program(chance, Grammar(random_schema(chance, small_content, is_schema)))
            text = print_program(program)
            self.assertEqual(parse_program(text), program)
            self.assertEqual(print_program(parse_program(text)), text)
            self.assertTrue(text.endswith("\n") and "  " not in text)
            words = [word for word, _ in words_of(text)]
            self.assertEqual(parse_program("\n".join(words)), program)

    def test_nothing_is_changed(self):
        program = parse_program(WHOLE)
        print_program(program)
        self.assertEqual(program, parse_program(WHOLE))


if __name__ == "__main__":
    unittest.main()
