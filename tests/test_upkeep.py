"""[98]: edited chains: outputs, patches, refused edits at each link, back again, and keys of the first document."""

import copy
import random
import unittest

from edit_oracle import KeyedTree, least_patch, random_exchanges
from hewstream.chains import plain_chain
from hewstream.edits import Edited
from hewstream.errors import NotDocument, NotValid, TooMany
from hewstream.patches import apply_patch
from hewstream.upkeep import EditedChain
from program_oracle import random_body, random_document, random_program
from samples import ODD_CONTENTS, Same
from shorthand import char, events_in, grammar_of, inside_in, program_of, refused, signs
from test_chains import ANY, COPY, TWICE, meaning
from test_edits import is_row

MADE = "root e\n" + "".join(f"{name} = {name} @p @q @x : (e | f | g | chars)*\n" for name in "efg")


def link(schema, rules):
    return grammar_of(schema), program_of(rules)


class ChainCase(unittest.TestCase):
    def begin(self, links, document):
        self.links = links
        self.chain = EditedChain(links, document)
        self.tree = KeyedTree(links[0][0], document)
        self.look()

    def expected(self):
        """The output by the plain meanings, with the keys of the first document; None if one between is not valid."""
        told = meaning(self.links, self.tree.document())
        marks = self.tree.marks()
        return None if told is None else [(event, marks[place][1]) for event, place in told]

    def look(self):
        self.assertEqual(self.chain.output(), self.expected())
        places = plain_chain(self.links, self.tree.document())
        self.assertEqual([event for event, _ in self.chain.output()], [event for event, _ in places])

    def edit(self, rows, made=None):
        before, kept = self.chain.output(), copy.deepcopy(rows)
        patch = self.chain.edit(rows)
        self.assertEqual(rows, kept)
        if made is not None:
            self.assertIs(patch is not None, made, rows)
        done = self.tree.edit(rows)
        if patch is None:
            # The first link refuses it, or an output between is no valid document.
            if done:
                self.assertIsNone(self.expected())
                self.tree.back()
            self.look()
            return None
        self.assertTrue(done)
        self.look()
        self.assertEqual(apply_patch(patch, before), self.chain.output())
        return patch

    def back(self, taken=True):
        before = self.chain.output()
        patch = self.chain.back()
        self.assertIs(patch is not None, taken)
        self.assertIs(self.tree.back(), taken)
        self.look()
        if taken:
            self.assertEqual(apply_patch(patch, before), self.chain.output())


class EditTest(ChainCase):
    DOCUMENT = events_in('<a x="1">p<b>q<a/></b>r<a>s</a></a>')

    def test_chains(self):
        for rules in ([COPY], [TWICE], [COPY, COPY], [TWICE, COPY], [COPY, TWICE], [TWICE, TWICE], [COPY, TWICE, COPY], [TWICE, TWICE, TWICE]):
            self.begin([link(ANY, text) for text in rules], self.DOCUMENT)
            self.edit([((), 1, 1, inside_in("<b>new</b>"))], True)
            self.edit([((1,), 3, 0, inside_in('<b y="2">x</b>y')), ((), 0, 1, [])], True)
            self.edit([((), 0, 0, inside_in("<z/>"))], False)
            self.edit([((0,), 0, 4, [])])
            self.edit([], True)
            self.edit([(None, 0, 1, events_in('<a y="1">w<b>v</b></a>'))], True)
            self.edit([((), 0, 2, [])], True)
            self.edit([((), 0, 0, inside_in("<b/><a>t</a>"))], True)
            while self.tree.past:
                self.back()
            self.back(False)

    def test_one_link(self):
        grammar, program = link(ANY, TWICE)
        self.begin([(grammar, program)], self.DOCUMENT)
        edited = Edited(grammar, program, self.DOCUMENT)
        for rows in ([((), 1, 1, inside_in("<b>new</b>"))], [((), 0, 0, inside_in("<z/>"))], [((1,), 0, 0, inside_in("x"))]):
            self.assertEqual(self.edit(rows), edited.edit(rows))
            self.assertEqual(self.chain.output(), edited.output())
        self.assertEqual(self.chain.back(), edited.back())

    def test_keys_of_the_first_document(self):
        first = link("root r\nr = r : s*\ns = s : chars\n", 'rule m r { make a { each m ( s ) make b { } each k ( s ) } } rule m s { "xy" } rule k s { make b { } }')
        second = link("root a\na = a : chars, b*\nb = b : empty\n", 'rule m a { make c { each m ( b ) "-" each m ( char ) } } rule m b { "b" }')
        self.begin([first, second], events_in("<r><s/><s/></r>"))
        told = [(("start", "c", ()), 0), signs("b", 0), signs("b", 1), signs("b", 2), signs("-", 0), char("x", 1), char("y", 1), char("x", 2), char("y", 2), (("end", "c"), 0)]
        self.assertEqual(self.chain.output(), told)
        patch = self.edit([((), 1, 0, inside_in("<s>z</s>"))], True)
        self.assertEqual(patch, [(3, 3, [signs("b", 3)]), (7, 7, [char("x", 3), char("y", 3)])])
        self.assertEqual(self.edit([((), 0, 1, [])], True), [(2, 3, []), (6, 8, [])])
        self.back()
        self.assertEqual(self.chain.back(), [(3, 4, []), (8, 10, [])])
        self.tree.back()
        # The next key is the same as before.
        self.assertEqual(self.edit([((), 2, 0, inside_in("<s/>"))], True), [(4, 4, [signs("b", 3)]), (9, 9, [char("x", 3), char("y", 3)])])

    def test_what_stays_is_not_put_in_again(self):
        copies = [link(ANY, COPY)] * 3
        self.begin(copies, self.DOCUMENT)
        before = self.chain.output()
        patch = self.edit([((1,), 1, 1, inside_in("<b/>")), ((3,), 0, 1, inside_in("t"))], True)
        self.assertEqual(patch, least_patch(before, self.chain.output()))
        self.assertEqual(patch, [(4, 6, [(("start", "b", ()), 8), (("end", "b"), 8)]), (9, 10, [char("t", 9)])])


class RefusedTest(ChainCase):
    # The first link makes a q of each t, but a p of a t with x; the second one makes a v of each q.
    FIRST = link("root r\nr = r : (s | t)*\ns = s : chars\nt = t @x : empty\n",
                 'rule m r { make a { each m ( s , t ) } } rule m s { each m ( char ) } rule m t { if @ x { make p { } } else { make q { } } }')
    SECOND = link("root a\na = a : (q | chars)*\nq = q : empty\n", "rule m a { make u { each m ( q , char ) } } rule m q { make v { } }")
    THIRD = link("root u\nu = u : (v?, v?) | chars\nv = v : empty\n", 'rule m u { each m ( v , char ) } rule m v { "v" }')

    def check(self, links, rows, made):
        self.begin(links, events_in("<r><t/></r>"))
        before = self.chain.output()
        self.edit(rows, made)
        self.back(made)
        self.assertEqual(self.chain.output(), before)
        # Behind a refused edit all goes on as if it had not been.
        self.assertIsNotNone(self.edit([((), 0, 1, inside_in("<t/>"))], True))
        self.assertEqual({key for _, key in self.chain.output()} <= {0, 2}, True)
        self.back()

    def test_each_link(self):
        all_links = [self.FIRST, self.SECOND, self.THIRD]
        for new, many in (("<t/>", 3), ("<s>xy</s>", 2), ('<t x=""/>', 1), ("<u/>", 0), ("x", 0), ("<t/><t/>", 2), ("<s/>", 3), ("<t/><s>x</s>", 2), ('<s>x</s><t x="1"/>', 1)):
            for count in (1, 2, 3):
                self.check(all_links[:count], [((), 1, 0, inside_in(new))], count <= many)

    def test_documents_that_are_replaced(self):
        for new, many in (("<r/>", 3), ("<r><s>x</s></r>", 3), ("<r><s>x</s><t/></r>", 2), ('<r><t x="1"/></r>', 1), ("<s/>", 0)):
            for count in (1, 2, 3):
                self.begin([self.FIRST, self.SECOND, self.THIRD][:count], events_in("<r><t/></r>"))
                self.edit([(None, 0, 1, events_in(new))], count <= many)
                self.edit([((), 0, 0, inside_in("<s/>"))], True)

    def test_a_root_that_a_child_makes(self):
        # The output's root is what one child writes: an edit takes it out and puts another one in.
        first = link("root r\nr = r : (s | t)*\ns = s : chars\nt = t : empty\n", "rule m r { each m ( s ) } rule m s { make a { each m ( char ) } }")
        second = link("root a\na = a : chars\n", 'rule m a { "<" each m ( char ) ">" }')
        self.begin([first, second], events_in("<r><t/><s>xy</s></r>"))
        self.assertEqual(self.edit([((), 1, 1, inside_in("<s>z</s>"))], True), [(0, 4, [signs("<", 5), char("z", 6), signs(">", 5)])])
        self.edit([((), 1, 1, [])], False)
        self.edit([((), 1, 1, inside_in("<s/><s/>"))], False)
        self.edit([((), 0, 0, inside_in("<s/>"))], False)
        self.edit([((), 2, 0, inside_in("<s/>"))], False)
        self.edit([((), 0, 1, inside_in("<s>w</s>"))], False)
        self.edit([((), 0, 2, inside_in("<s>w</s>"))], True)
        self.edit([((0,), 0, 1, inside_in("uv"))], True)
        self.edit([((), 0, 0, inside_in("<t/>"))], True)
        for _ in range(4):
            self.back()
        self.back(False)

    def test_no_documents(self):
        links = [self.FIRST, self.SECOND, self.THIRD]
        for text, many in (("<r><t/><t/><t/></r>", 2), ('<r><t x=""/></r>', 1), ("<r><t/></r>", 3), ("<r><s>x</s><t/></r>", 2)):
            document = events_in(text)
            for count in (1, 2, 3):
                if count <= many:
                    EditedChain(links[:count], document)
                else:
                    self.assertEqual(refused(self, NotDocument, EditedChain, links[:count], document).number, len(document))
        for document in [*ODD_CONTENTS, events_in("<s/>"), events_in("<r>x</r>"), events_in("<r/>")[:1], [Same(), Same()]]:
            refused(self, NotValid, EditedChain, links, document)

    def test_links(self):
        grammar, program = self.FIRST
        for value in ([], None, (self.FIRST,), [list(self.FIRST)], [(grammar,)], [(grammar, program, 1)], [(program, grammar)], [(grammar, {})], [self.FIRST, None],
                      [self.FIRST, (self.SECOND[0], program)], [Same()], {0: self.FIRST}):
            refused(self, NotValid, EditedChain, value, events_in("<r/>"))

    def test_what_is_no_edit(self):
        self.begin([self.FIRST, self.SECOND], events_in("<r><t/></r>"))
        for value in [value for value in ODD_CONTENTS if value != []] + [[((), 2, 0, [])], [((), 0, 0, [None])], [((), 0, 1, []), ((), 1, 0, [])], [(None, 0, 1, [])]]:
            refused(self, NotValid, self.chain.edit, value)
            self.look()
        self.back(False)

    def test_too_many(self):
        first = link("root r\nr = r : (s | t)*\ns = s : empty\nt = t : empty\n", "rule m r { make a { each m ( s , t ) } } rule m s { make b { } } rule m t { }")
        second = link("root a\na = a : b*\nb = b : empty\n", "rule m a { each m ( b ) each m ( b ) each m ( b ) each m ( b ) each m ( b ) }")
        document = events_in("<r>" + "<s/>" * 999 + "</r>")
        self.begin([first, second], document)
        # In the second link an s more is one frame of each of five lanes: 4996 of 5000 have come.
        refused(self, TooMany, self.chain.edit, [((), 0, 0, inside_in("<s/>"))])
        self.look()
        self.assertEqual(self.chain.edit([((), 0, 0, inside_in("<t/>"))]), [])
        self.assertEqual(self.chain.edit([((), 1, 1, inside_in("<s/>"))]), [])
        refused(self, TooMany, self.chain.edit, [((), 0, 0, inside_in("<s/>"))])
        self.assertEqual((self.chain.back(), self.chain.back(), self.chain.back()), ([], [], None))
        refused(self, TooMany, EditedChain, [first, second], events_in("<r>" + "<s/>" * 1000 + "</r>"))
        refused(self, TooMany, EditedChain, [first], events_in("<r>" + "<s/>" * 5000 + "</r>"))


class RandomTest(ChainCase):
    def random_links(self, chance):
        grammar = grammar_of(MADE)
        links = []
        for _ in range(chance.choice([1, 2, 2, 3])):
            program = random_program(chance, grammar)
            key = (program["start"], "e")
            # The start makes the root of an output that the next link can read.
            body = random_body(chance, grammar, sorted(program["modes"]), "e", 1, True)
            body += (("each", chance.choice(sorted(program["modes"])), ("char", "e", "f", "g")),) * (chance.random() < 0.7)
            program = {**program, "rules": {**program["rules"], key: (("make", "e", (), body),)}}
            links.append((grammar, program))
        if chance.random() < 0.5:
            content = chance.choice(["(e | f | g)*", "(f | chars)*, g?, e?, chars", "(g | chars)*, (e, (e | f | g | chars)*)?"])
            strict = MADE.replace("e = e @p @q @x : (e | f | g | chars)*", "e = e @p @q @x : " + content)
            links.append((grammar_of(strict), program_of("rule m e { each m ( e , f , g , char ) } rule m f { make h { each m ( char ) } } "
                                                         'rule m g { "g" }')))
        return links

    def test_random(self):
        chance = random.Random(98)
        seen = {"made": 0, "refused": 0, "later": 0, "patches": 0, "back": 0}
        for _ in range(260):
            links = self.random_links(chance)
            documents = [random_document(chance, links[0][0], chance.randrange(2, 12)) for _ in range(3)]
            rows = [[], inside_in("x"), inside_in("yz"), inside_in("<h/>"), *[document[begin:end] for document in documents for begin in range(1, len(document))
                                                           for end in range(begin + 1, len(document)) if is_row(document[begin:end])]]
            try:
                self.begin(links, documents[0])
            except (TooMany, NotDocument):
                continue
            for _ in range(8):
                if chance.random() < 0.25:
                    seen["back"] += self.tree.past != []
                    self.back(self.tree.past != [])
                    continue
                exchanges = random_exchanges(chance, self.tree, rows)
                if chance.random() < 0.1:
                    exchanges = [(None, 0, 1, chance.choice(documents))]
                if len(self.chain.output()) > 400:
                    break
                try:
                    patch = self.edit(exchanges)
                except TooMany:
                    self.look()
                    break
                seen["made" if patch is not None else "refused"] += 1
                seen["later"] += patch is not None and len(links) > 1
                seen["patches"] += bool(patch)
        self.assertGreater(min(seen.values()), 20, seen)


if __name__ == "__main__":
    unittest.main()
