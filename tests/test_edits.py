"""[93] to [97]: edits at every place, refused ones, what is no edit, least patches, bodies settled, and back again."""

import copy
import random
import unittest

from edit_oracle import KeyedTree, least_patch, random_exchanges
from hewstream.edits import MOST_STANDING, Edited
from hewstream.errors import NotValid, TooMany
from hewstream.patches import apply_patch
from hewstream.programs import body_of, settled
from hewstream.schemas import Grammar, is_schema
from program_oracle import random_document, random_program
from samples import ODD_CONTENTS, Same
from schema_oracle import random_schema, small_content
from shorthand import char, events_in, grammar_of, inside_in, program_of, refused, signs

SCHEMA = "root a\na = a @x : (b | c | chars)*\nb = b : chars\nc = c @y! : (b | c)*, d?\nd = d : empty\n"
RULES = ('rule m a { "<" each m ( b , c ) @ x each n ( c ) "|" each m ( char ) ">" } rule m b { "b" each m ( char ) "." } '
         'rule n c { make p { each m ( b ) each n ( c ) } each m ( d ) } rule m c { each d ( b ) } rule d b { "d" } rule m d { "d" }')
TEXT = '<a x="v">p<c y="1"><b>q</b><c y=""/><d/></c>r<b>st</b></a>'


class EditCase(unittest.TestCase):
    def begin(self, grammar, program, document):
        self.grammar, self.program = grammar, program
        self.edited = Edited(grammar, program, document)
        self.tree = KeyedTree(grammar, document)
        self.look()
        self.assertEqual(self.edited.settled(), frames_of(grammar, program, self.tree.marks(), 0))

    def look(self):
        """All is as in the tree."""
        self.assertEqual(list(zip(self.edited.document(), self.edited.node_keys(), strict=True)), self.tree.marks())
        self.assertEqual(self.edited.output(), self.tree.output(self.program))

    def edit(self, rows, made=None):
        before, free, settled = self.edited.output(), self.tree.free, self.edited.settled()
        kept = copy.deepcopy(rows)
        patch = self.edited.edit(rows)
        self.assertEqual(rows, kept)
        if made is not None:
            self.assertIs(patch is not None, made, rows)
        self.assertIs(self.tree.edit(rows), patch is not None)
        self.look()
        if patch is None:
            self.assertEqual(self.edited.settled(), settled)
            return None
        self.assertEqual(patch, least_patch(before, self.edited.output()))
        self.assertEqual(apply_patch(patch, before), self.edited.output())
        # Just the frames of what was put in.
        self.assertEqual(self.edited.settled() - settled, frames_of(self.grammar, self.program, self.tree.marks(), free))
        return patch

    def back(self, taken=True):
        before, settled = self.edited.output(), self.edited.settled()
        patch = self.edited.back()
        self.assertIs(self.tree.back(), taken)
        self.assertIs(patch is not None, taken)
        self.look()
        self.assertEqual(self.edited.settled(), settled)
        if taken:
            self.assertEqual(apply_patch(patch, before), self.edited.output())
            self.assertEqual(patch, least_patch(before, self.edited.output()))


def frames_of(grammar, program, marks, least):
    """How many frames the elements with keys from the least one on have."""
    many, around = 0, []
    for event, key in marks:
        if event[0] == "end":
            around.pop()
        if event[0] != "start":
            continue
        kind, modes = grammar.root, [program["start"]]
        if around:
            outer, attributes, uses = around[-1]
            kind = grammar.child_type(outer, event[1])
            modes = [part[1] for mode in uses for part in settled(body_of(program, mode, outer), attributes)
                     if part[0] == "lane" and kind in part[2]]
        around.append((kind, event[2], modes))
        many += len(modes) if key >= least else 0
    return many


class ExampleTest(EditCase):
    def test_example(self):
        self.begin(grammar_of("root a\na = a : b*\nb = b : empty\n"), program_of('rule m a { each m ( b ) "-" each m ( b ) } rule m b { "x" }'), events_in("<a><b/></a>"))
        self.assertEqual(self.edited.output(), [signs("x", 1), signs("-", 0), signs("x", 1)])
        self.assertEqual(self.edited.settled(), 3)
        self.assertEqual(self.edit([((), 1, 0, [("start", "b", ()), ("end", "b")])]), [(1, 1, [signs("x", 2)]), (3, 3, [signs("x", 2)])])
        self.assertEqual(self.edited.settled(), 5)
        self.assertEqual(self.edited.node_keys(), [0, 1, 1, 2, 2, 0])
        self.back()
        self.assertEqual(self.edited.output(), [signs("x", 1), signs("-", 0), signs("x", 1)])
        self.back(False)


class PlacesTest(EditCase):
    def setUp(self):
        self.begin(grammar_of(SCHEMA), program_of(RULES), events_in(TEXT))

    def test_each_place(self):
        rows = [[], inside_in("<b/>"), inside_in("<b>w</b>"), inside_in('<c y="2"><b>u</b></c>'), inside_in("z"), inside_in("<d/>"), inside_in("z<b/>w")]
        made = 0
        for path, count in (((), 4), ((1,), 3), ((1, 0), 1), ((1, 1), 0), ((1, 2), 0), ((3,), 2)):
            for index in range(count + 1):
                for many in range(count - index + 1):
                    for new in rows:
                        if self.edit([(path, index, many, new)]) is not None:
                            made += 1
                            self.back()
        self.assertGreater(made, 100)

    def test_no_child_and_all_children(self):
        self.edit([((), 0, 0, [])], True)
        self.edit([((), 4, 0, inside_in("x"))], True)
        self.edit([((1,), 0, 3, [])], True)
        self.edit([((), 0, 5, [])], True)
        self.assertEqual(self.edited.document(), [("start", "a", (("x", "v"),)), ("end", "a")])
        for _ in range(4):
            self.back()
        self.back(False)

    def test_the_root(self):
        many = len(self.edited.output())
        patch = self.edit([(None, 0, 1, events_in('<a x="2"><b>z</b></a>'))], True)
        self.assertEqual(patch, [(0, many, self.edited.output())])
        self.assertEqual(self.edited.node_keys(), [11, 12, 13, 12, 11])
        self.edit([((), 1, 0, inside_in("y"))], True)
        self.back()
        self.back()
        self.edit([(None, 0, 1, events_in("<a/>"))], True)
        # The keys of the edits that were taken back are given again.
        self.assertEqual(self.edited.node_keys(), [11, 11])
        self.edit([(None, 0, 1, events_in("<b/>"))], False)
        self.edit([(None, 0, 1, events_in('<a z=""/>'))], False)

    def test_several_at_once(self):
        self.edit([((1,), 2, 1, inside_in("<d/>")), ((), 0, 1, []), ((3,), 1, 1, inside_in("uv")), ((), 4, 0, inside_in("<b/>"))], True)
        # The next keys in the order of the exchanges, wherever these stand.
        self.assertEqual(self.edited.node_keys(), [0, 2, 3, 4, 3, 5, 5, 11, 11, 2, 7, 8, 9, 12, 13, 8, 14, 14, 0])
        self.edit([((), 0, 1, inside_in("1")), ((), 2, 1, inside_in("2"))], True)
        self.edit([((), 3, 0, inside_in("3")), ((), 0, 0, inside_in("4")), ((), 1, 1, [])], True)
        for _ in range(3):
            self.back()

    def test_edits_of_nothing(self):
        self.assertEqual(self.edit([]), [])
        self.assertEqual(self.edit([((), 2, 0, []), ((1,), 0, 0, [])]), [])
        self.assertEqual(self.edited.back(), [])
        self.assertEqual(self.edited.back(), [])
        self.assertIsNone(self.edited.back())
        self.look()

    def test_the_same_again(self):
        # What is put in is new, though it reads the same.
        patch = self.edit([((3,), 0, 2, inside_in("st"))], True)
        self.assertEqual(patch, [(3, 5, [char("s", 11), char("t", 12)])])

    def test_refused(self):
        for rows in ([((), 0, 1, inside_in("<d/>"))], [((1,), 2, 0, inside_in("<d/>"))], [((1,), 3, 0, inside_in("<b/>"))], [((3,), 0, 0, inside_in("<b/>"))],
                     [((1,), 0, 1, inside_in("x"))], [((), 0, 0, inside_in("<c/>"))], [((), 0, 0, inside_in('<b x=""/>'))], [((), 0, 0, inside_in("<z/>"))],
                     [((), 0, 1, []), ((1, 2), 0, 0, inside_in("x"))]):
            self.edit(rows, False)
            self.back(False)
        self.edit([((), 0, 1, [])], True)
        self.edit([((), 0, 1, inside_in("<d/>"))], False)
        self.back()
        self.back(False)

    def test_back_to_the_beginning_and_once_more(self):
        rows = [[((), 0, 1, inside_in("<b>1</b>"))], [((0,), 0, 1, inside_in("23"))], [((), 1, 2, inside_in("<b/>x"))]]
        told = []
        for _ in range(3):
            told.append([self.edit(row, True) for row in rows])
            for _ in rows:
                self.back()
            self.back(False)
        self.assertEqual(told, told[:1] * 3)

    def test_lists_are_not_shared(self):
        children = inside_in("x")
        rows = [((), 0, 0, children)]
        patch = self.edit(rows)
        children.append(None)
        rows.append(None)
        patch.append(None)
        for told in (self.edited.document(), self.edited.node_keys(), self.edited.output()):
            told.clear()
        self.look()
        self.back()


class NoEditTest(EditCase):
    def setUp(self):
        self.begin(grammar_of(SCHEMA), program_of(RULES), events_in(TEXT))

    def bad(self, value):
        before = self.edited.document(), self.edited.node_keys(), self.edited.output(), self.edited.settled()
        refused(self, NotValid, self.edited.edit, value)
        self.assertEqual((self.edited.document(), self.edited.node_keys(), self.edited.output(), self.edited.settled()), before)
        self.back(False)

    def test_kinds(self):
        good = ((), 0, 1, [])
        for value in [value for value in ODD_CONTENTS if value != []] + [(good,), [list(good)], [good[:3]], [(*good, 1)], [None], [Same()], {0: good}]:
            self.bad(value)
        for path in (0, [], None, "", "0", (None,), (True,), ("0",), (0.0,), (Same(),), (-1,), Same(), ((),), [0]):
            self.bad([(path, 0, 1, [])])
            self.bad([(path, 1, 1, [])])
        for number in (True, False, None, "0", 0.0, -1, (), Same()):
            self.bad([((), number, 1, [])])
            self.bad([((), 0, number, [])])
        for children in ((), None, "x", "", 0, Same(), [None], [Same()], [("char", "xy")], [("char",)], [["char", "x"]], [("signs", "x")], [("start", "b", [])], [("start", "b", ())],
                         [("end", "b")], [("start", "b", ()), ("end", "c")], [("end", "b"), ("start", "b", ())], inside_in("<b/>")[:1] + inside_in("x"), [("start", "b"), ("end", "b")],
                         [("start", "B", ()), ("end", "B")], [("char", "%")], [("start", "c", (("y", "1"), ("a", "2"))), ("end", "c")], inside_in("<b/>") + [("end", "a")]):
            self.bad([((), 0, 1, children)])

    def test_places(self):
        # Of the root there are 4 children: a sign, a c with 3 of its own, a sign, and a b with 2 signs.
        for path, index, many in (((), 5, 0), ((), 4, 1), ((), 0, 5), ((), 3, 2), ((0,), 0, 0), ((2,), 0, 0), ((4,), 0, 0), ((1,), 4, 0), ((1,), 0, 4), ((1, 0), 0, 2), ((1, 0, 0), 0, 0),
                                  ((1, 3), 0, 0), ((3, 0), 0, 0), ((3,), 3, 0), ((1, 1), 0, 1), ((1, 1), 1, 0), ((1, 1, 0), 0, 0), ((9,), 0, 0)):
            self.bad([(path, index, many, [])])
        for path, index, many in (((), 4, 0), ((), 0, 4), ((1,), 3, 0), ((1, 0), 1, 0), ((1, 1), 0, 0), ((3,), 2, 0)):
            self.edit([(path, index, many, [])])
            self.edited.back()
            self.tree.back()

    def test_the_root(self):
        new = events_in("<a/>")
        for row in ((None, 0, 0, new), (None, 1, 1, new), (None, 0, 2, new), (None, 1, 0, new), (None, False, 1, new), (None, 0, True, new), (None, 0, 1, []), (None, 0, 1, new + new),
                    (None, 0, 1, inside_in("x")), (None, 0, 1, tuple(new)), (None, 0, 1, new[:1]), (None, 0, 1, new + inside_in(" "))):
            self.bad([row])
        good = (None, 0, 1, new)
        for rows in ([good, good], [good, ((), 0, 0, [])], [((), 0, 0, []), good]):
            self.bad(rows)
        self.edit([good], True)

    def test_exchanges_of_the_same_element(self):
        for one, other in (((0, 0), (0, 0)), ((0, 1), (0, 1)), ((0, 1), (1, 0)), ((0, 1), (1, 1)), ((0, 0), (0, 1)), ((0, 2), (1, 0)), ((0, 2), (1, 1)), ((0, 4), (2, 1)), ((1, 2), (3, 1)),
                           ((4, 0), (4, 0)), ((2, 2), (4, 0)), ((0, 3), (2, 0))):
            for pair in ((one, other), (other, one)):
                self.bad([((), index, many, []) for index, many in pair])
        for one, other in (((0, 0), (1, 0)), ((0, 1), (2, 1)), ((0, 1), (2, 0)), ((0, 0), (1, 3)), ((3, 0), (4, 0)), ((0, 2), (3, 1))):
            self.assertIsNotNone(self.edited.edit([((), *one, []), ((), *other, [])]))
            self.edited.back()

    def test_paths_through_children_that_are_taken_out(self):
        for rows in ([((), 1, 1, []), ((1,), 0, 0, [])], [((), 0, 4, []), ((3,), 0, 1, [])], [((), 1, 1, []), ((1, 0), 0, 1, [])], [((1,), 0, 1, []), ((1, 0), 0, 0, [])],
                     [((), 0, 2, []), ((1, 1), 0, 0, [])], [((1,), 1, 2, []), ((1, 1), 0, 0, [])]):
            self.bad(rows)
            self.bad(rows[::-1])
        for rows in ([((), 1, 0, []), ((1,), 0, 0, [])], [((), 2, 0, []), ((1,), 3, 0, [])], [((), 0, 1, []), ((1,), 0, 0, [])], [((), 2, 2, []), ((1, 0), 0, 0, [])],
                     [((1,), 0, 1, []), ((1, 1), 0, 0, [])]):
            self.assertIsNotNone(self.edited.edit(rows))
            self.edited.back()

    def test_made_with_what_is_not_valid(self):
        grammar, program = grammar_of(SCHEMA), program_of(RULES)
        good = events_in("<a/>")
        for document in [*ODD_CONTENTS, tuple(good), good[:1], good + good, events_in("<b/>"), events_in("<a><d/></a>"), [("start", "a", []), ("end", "a")], [Same(), Same()]]:
            refused(self, NotValid, Edited, grammar, program, document)
        refused(self, NotValid, Edited, grammar, {}, good)
        refused(self, NotValid, Edited, grammar, program_of("rule m z { }"), good)


class LimitsTest(EditCase):
    GRAMMAR = grammar_of("root a\na = a : (b | a)*\nb = b : empty\n")

    def test_most_frames(self):
        self.assertEqual(MOST_STANDING, 5000)
        program = program_of("rule m a { each m ( b ) each d ( b ) each m ( a ) }")
        # One frame of the root, two of each b.
        many = 2499
        document = events_in("<a>" + "<b/>" * many + "</a>")
        edited = Edited(self.GRAMMAR, program, document)
        self.assertEqual((edited.settled(), len(edited.output())), (4999, 0))
        self.assertEqual(edited.edit([((), 0, 0, inside_in("<a/>"))]), [])
        self.assertEqual(edited.settled(), 5000)
        kept = edited.document(), edited.node_keys()
        for rows in ([((), 0, 0, inside_in("<a/>"))], [((), 0, 0, inside_in("<b/>"))], [((), 1, 1, inside_in("<b/><a/>"))]):
            refused(self, TooMany, edited.edit, rows)
            self.assertEqual((edited.document(), edited.node_keys(), edited.settled()), (*kept, 5000))
        # What is refused is refused, however many it would be.
        self.assertIsNone(edited.edit([((), 0, 0, inside_in("<b/><b/>x"))]))
        self.assertEqual(edited.edit([((), 1, 1, inside_in("<a/><a/>"))]), [])
        self.assertEqual(edited.settled(), 5002)
        self.assertEqual((edited.back(), edited.back(), edited.back()), ([], [], None))
        self.assertEqual(edited.document(), document)
        refused(self, TooMany, Edited, self.GRAMMAR, program, events_in("<a>" + "<b/>" * 2500 + "</a>"))

    def test_in_one_step(self):
        # Each inner a has three times as many frames: 1 + 3 + .. + 2187 are 3280.
        program = program_of("rule m a { each m ( a ) each m ( a ) each m ( a ) each m ( b ) }")
        edited = Edited(self.GRAMMAR, program, events_in("<a>" * 8 + "</a>" * 8))
        self.assertEqual(edited.settled(), 3280)
        refused(self, TooMany, edited.edit, [((0,) * 7, 0, 0, inside_in("<a/>"))])
        refused(self, TooMany, edited.edit, [((0,) * 6, 0, 0, inside_in("<a/>"))])
        self.assertEqual(edited.edit([((0,) * 5, 0, 0, inside_in("<a/>"))]), [])
        self.assertEqual(edited.settled(), 3280 + 729)
        refused(self, TooMany, Edited, self.GRAMMAR, program, events_in("<a>" * 40 + "</a>" * 40))

    def test_deep(self):
        grammar = grammar_of("root a\na = a : a?\n")
        many = 900
        edited = Edited(grammar, program_of('rule m a { "x" each m ( a ) }'), [("start", "a", ())] * many + [("end", "a")] * many)
        self.assertEqual(edited.output(), [signs("x", key) for key in range(many)])
        self.assertEqual(edited.edit([((0,) * (many - 1), 0, 0, [("start", "a", ()), ("end", "a")])]), [(many, many, [signs("x", many)])])
        self.assertEqual(edited.edit([((0,) * 10, 0, 1, [])]), [(11, many + 1, [])])
        self.assertEqual(len(edited.back()), 1)


class RandomTest(EditCase):
    def test_random(self):
        chance = random.Random(95)
        seen = {"made": 0, "refused": 0, "patches": 0, "several": 0}
        for _ in range(220):
            grammar = Grammar(random_schema(chance, small_content, is_schema))
            program = random_program(chance, grammar)
            documents = [random_document(chance, grammar, chance.randrange(1, 16)) for _ in range(4)]
            rows = [[], inside_in("x"), inside_in("yz"), *[document[begin:end] for document in documents for begin in range(1, len(document))
                                                           for end in range(begin + 1, len(document)) if is_row(document[begin:end])]]
            try:
                self.begin(grammar, program, documents[0])
            except TooMany:
                continue
            for _ in range(12):
                if chance.random() < 0.25:
                    self.back(self.tree.past != [])
                    continue
                exchanges = random_exchanges(chance, self.tree, rows)
                if chance.random() < 0.08:
                    exchanges = [(None, 0, 1, chance.choice(documents))]
                try:
                    patch = self.edit(exchanges)
                except TooMany:
                    break
                seen["made" if patch is not None else "refused"] += 1
                seen["patches"] += bool(patch)
                seen["several"] += bool(patch) and len(exchanges) > 1
        self.assertGreater(min(seen.values()), 40, seen)


def is_row(events):
    nested = 0
    for event in events:
        nested += {"start": 1, "char": 0, "end": -1}[event[0]]
        if nested < 0:
            return False
    return nested == 0


if __name__ == "__main__":
    unittest.main()
