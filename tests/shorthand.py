"""Short ways to write grammars, programs and documents in tests."""

from hewstream.facts import Facts
from hewstream.schemas import Grammar, read_schema
from hewstream.syntax import parse_program
from hewstream.tokens import read_text

MODES = "mode d drops mode k drops mode m keeps mode n keeps"


def grammar_of(text):
    return Grammar(read_schema(text))


def program_of(rules, modes=MODES):
    return parse_program("start m " + modes + " " + rules)


def facts_of(schema, rules, modes=MODES):
    return Facts(grammar_of(schema), program_of(rules, modes))


def events_in(text):
    return read_text([ord(sign) for sign in text])


def inside_in(text):
    """The events of a row of whole elements and signs."""
    return events_in("<z>" + text + "</z>")[1:-1]


def signs(string, place):
    return ("signs", string), place


def char(sign, place):
    return ("char", sign), place


def refused(test, error, function, *arguments):
    """The error that is raised: just of this class."""
    with test.assertRaises(error) as caught:
        function(*arguments)
    test.assertIs(type(caught.exception), error)
    return caught.exception
