"""[91], [92], [94], [98]: patches applied, undone and joined; exchanges of patches of documents."""

import copy
import random
import unittest

from hewstream.events import events_of, is_document, tree_of
from hewstream.patches import apply_patch, exchanges_of, join_patches, undo_patch
from program_oracle import random_document
from hewstream.schemas import Grammar, is_schema
from schema_oracle import random_schema, small_content
from shorthand import events_in, inside_in


def is_patch(patch, many):
    """True if it is a patch as point [91] tells, for a list of so many items."""
    behind = -1
    for begin, end, items in patch:
        if not behind < begin <= end <= many or (begin == end and not items) or not isinstance(items, list):
            return False
        behind = end
    return isinstance(patch, list)


def random_patch(chance, many, fresh):
    """A patch of a list of so many items, that puts in marks of its own."""
    kept = [chance.random() < 0.6 for _ in range(many)]
    pieces, at = [], 0
    while at <= many:
        begin = at
        while at < many and not kept[at]:
            at += 1
        new = [fresh + len(pieces) * 100 + number for number in range(chance.choice([0, 0, 1, 3]))]
        if begin < at or new:
            pieces.append((begin, at, new))
        at += 1
    return pieces


class PatchTest(unittest.TestCase):
    def test_apply(self):
        items = list("abcdef")
        for patch, expected in (([], "abcdef"), ([(0, 0, ["x"])], "xabcdef"), ([(6, 6, ["x", "y"])], "abcdefxy"), ([(0, 6, [])], ""), ([(0, 6, ["x"])], "x"),
                                ([(1, 2, []), (3, 3, ["x"]), (5, 6, ["y", "z"])], "acxdeyz"), ([(0, 1, []), (2, 4, ["x"])], "bxef"), ([(2, 2, ["x"]), (3, 4, [])], "abxcef")):
            self.assertEqual(apply_patch(patch, items), list(expected))
            self.assertEqual(items, list("abcdef"))
        self.assertEqual(apply_patch([(0, 0, [1, 2])], []), [1, 2])
        self.assertEqual(apply_patch([], []), [])

    def test_a_new_list(self):
        items, new = [1, 2], [3]
        told = apply_patch([], items)
        told.append(4)
        self.assertEqual(items, [1, 2])
        patch = [(2, 2, new)]
        joined = join_patches(patch, [], 2)
        undo = undo_patch([(0, 1, [])], items)
        joined[0][2].append(5)
        undo[0][2].append(5)
        self.assertEqual((patch, new, items), ([(2, 2, [3])], [3], [1, 2]))

    def test_undo(self):
        items = list("abcdef")
        for patch, expected in (([], []), ([(0, 0, ["x"])], [(0, 1, [])]), ([(0, 6, [])], [(0, 0, items)]), ([(1, 2, []), (3, 3, ["x", "y"]), (5, 6, ["z"])],
                                [(1, 1, ["b"]), (2, 4, []), (6, 7, ["f"])])):
            self.assertEqual(undo_patch(patch, items), expected)
            self.assertEqual(apply_patch(expected, apply_patch(patch, items)), items)

    def test_join(self):
        for first, second, expected in (([], [], []), ([(1, 2, ["x"])], [], [(1, 2, ["x"])]), ([], [(1, 2, ["x"])], [(1, 2, ["x"])]),
                                        # What is put in and taken out again is not told.
                                        ([(2, 2, ["x", "y"])], [(2, 4, [])], []), ([(2, 2, ["x", "y"])], [(2, 3, [])], [(2, 2, ["y"])]),
                                        # Pieces that come together: side by side, and with nothing between that stays.
                                        ([(1, 2, [])], [(1, 2, [])], [(1, 3, [])]), ([(1, 1, ["x"])], [(2, 3, [])], [(1, 2, ["x"])]),
                                        ([(0, 1, ["x"]), (2, 3, ["y"])], [(1, 2, ["z"])], [(0, 3, ["x", "z", "y"])]),
                                        ([(1, 1, ["x"])], [(1, 1, ["y"])], [(1, 1, ["y", "x"])]), ([(1, 1, ["x"])], [(2, 2, ["y"])], [(1, 1, ["x", "y"])]),
                                        # An item that is taken out is not put in again.
                                        ([(1, 2, [])], [(1, 1, ["b"])], [(1, 2, ["b"])]), ([(0, 4, [])], [(0, 0, ["x"])], [(0, 4, ["x"])]),
                                        ([(4, 4, ["x"])], [(5, 5, ["y"])], [(4, 4, ["x", "y"])]), ([(0, 4, ["x"])], [(0, 1, [])], [(0, 4, [])])):
            self.assertEqual(join_patches(first, second, 4), expected)
            items = list("abcd")
            self.assertEqual(apply_patch(expected, items), apply_patch(second, apply_patch(first, items)))
        self.assertEqual(join_patches([(0, 0, [1])], [(0, 1, [])], 0), [])
        # Items that look like the places of others, or are tuples.
        self.assertEqual(join_patches([(0, 1, [3, (2,)])], [(1, 1, [0])], 4), [(0, 1, [3, 0, (2,)])])

    def test_random(self):
        chance = random.Random(91)
        for _ in range(1500):
            items = list(range(chance.randrange(9)))
            first = random_patch(chance, len(items), 1000)
            self.assertTrue(is_patch(first, len(items)))
            behind = apply_patch(first, items)
            second = random_patch(chance, len(behind), 5000)
            kept = copy.deepcopy((items, first, second))
            last = apply_patch(second, behind)
            # Against the marks of the items that stay.
            self.assertEqual([item for item in behind if item < 1000],
                             [item for item in items if not any(begin <= item < end for begin, end, _ in first)])
            undo = undo_patch(first, items)
            self.assertTrue(is_patch(undo, len(behind)))
            self.assertEqual(apply_patch(undo, behind), items)
            both = join_patches(first, second, len(items))
            self.assertTrue(is_patch(both, len(items)))
            self.assertEqual(apply_patch(both, items), last)
            taken = {item for begin, end, _ in both for item in range(begin, end)}
            self.assertEqual(sorted(set(items) - taken), sorted(set(items) & set(last)))
            self.assertEqual((items, first, second), kept)
            third = random_patch(chance, len(last), 9000)
            self.assertEqual(join_patches(both, third, len(items)), join_patches(first, join_patches(second, third, len(behind)), len(items)))
            self.assertEqual(join_patches(first, undo, len(items)), [(begin, end, items[begin:end]) for begin, end, _ in first if begin < end])


class ExchangesTest(unittest.TestCase):
    DOCUMENT = events_in("<a><b>xy</b>z<c><b/><b>w</b></c></a>")

    def check(self, patch, expected):
        kept = copy.deepcopy((self.DOCUMENT, patch))
        self.assertEqual(exchanges_of(self.DOCUMENT, patch), expected)
        self.assertEqual((self.DOCUMENT, patch), kept)

    def test_document(self):
        self.assertEqual([event[0][0] + event[1] for event in self.DOCUMENT],
                         ["sa", "sb", "cx", "cy", "eb", "cz", "sc", "sb", "eb", "sb", "cw", "eb", "ec", "ea"])

    def test_pieces(self):
        new = inside_in("<d/>q")
        self.check([], [])
        self.check([(1, 5, new)], [((), 0, 1, new)])
        self.check([(1, 1, new)], [((), 0, 0, new)])
        self.check([(5, 6, [])], [((), 1, 1, [])])
        self.check([(1, 13, [])], [((), 0, 3, [])])
        self.check([(13, 13, new)], [((), 3, 0, new)])
        self.check([(3, 4, [])], [((0,), 1, 1, [])])
        self.check([(4, 4, new)], [((0,), 2, 0, new)])
        self.check([(7, 9, new)], [((2,), 0, 1, new)])
        self.check([(8, 8, new)], [((2, 0), 0, 0, new)])
        self.check([(9, 12, [])], [((2,), 1, 1, [])])
        self.check([(11, 11, new)], [((2, 1), 1, 0, new)])
        self.check([(5, 13, new)], [((), 1, 2, new)])

    def test_several(self):
        new = inside_in("q")
        self.check([(2, 3, []), (5, 5, new), (7, 9, []), (10, 11, new), (13, 13, new)],
                   [((0,), 0, 1, []), ((), 1, 0, new), ((2,), 0, 1, []), ((2, 1), 0, 1, new), ((), 3, 0, new)])
        self.check([(1, 5, []), (6, 13, new)], [((), 0, 1, []), ((), 2, 1, new)])

    def test_the_whole_document(self):
        new = events_in("<a>x</a>")
        self.check([(0, 14, new)], [(None, 0, 1, new)])
        self.check([(0, 14, [])], None)

    def test_pieces_that_cut_through_elements(self):
        new = inside_in("q")
        for piece in ((1, 2, []), (1, 2, new), (1, 4, []), (2, 5, []), (4, 5, new), (4, 6, []), (0, 1, []), (0, 13, []), (13, 14, []), (1, 14, []), (0, 5, new), (3, 7, []),
                      (12, 13, []), (9, 13, new), (4, 7, new), (4, 10, [])):
            self.check([piece], None)
            self.check([(5, 6, [])] + [piece] if piece[0] > 6 else [piece, (13, 13, new)] if piece[1] < 13 else [piece], None)
        for new in ([("start", "b", ())], [("end", "b")], [("end", "b"), ("start", "b", ())], [("start", "b", ()), ("end", "c")], [("start", "b", ()), ("char", "x")]):
            self.check([(2, 3, new)], None)
            self.check([(1, 5, new)], None)

    def test_outside_of_the_root(self):
        for new in (inside_in("q"), inside_in("<a/>")):
            self.check([(0, 0, new)], None)
            self.check([(14, 14, new)], None)
            self.check([(5, 6, []), (14, 14, new)], None)

    def test_random(self):
        """The exchanges, made in the tree, give the document behind the patch."""
        chance = random.Random(94)
        seen = {"several": 0, "none": 0, "deep": 0}
        for _ in range(500):
            grammar = Grammar(random_schema(chance, small_content, is_schema))
            document = random_document(chance, grammar, chance.randrange(2, 20))
            patch = random_patch(chance, len(document), 1000)
            patch = [(begin, end, inside_in(chance.choice(["", "x", "<q/>", "<q>y</q>z"])) if new else []) for begin, end, new in patch]
            if chance.random() < 0.7:
                patch = whole_pieces(chance, document)
            told = exchanges_of(document, patch)
            if told is None:
                seen["none"] += 1
                behind = apply_patch(patch, document)
                whole = all(is_whole(document, begin, end) and is_document([("start", "z", ()), *new, ("end", "z")]) for begin, end, new in patch)
                self.assertFalse(whole and is_document(behind), (document, patch))
                continue
            self.assertEqual(len(told), len(patch))
            self.assertEqual(events_of(exchanged(tree_of(document), told)), apply_patch(patch, document))
            seen["several"] += len(told) > 1
            seen["deep"] += any(path and len(path) > 1 for path, _, _, _ in told)
        self.assertGreater(min(seen.values()), 20, seen)


def is_whole(document, begin, end):
    """True if the piece stands within the root, and takes out whole elements and signs."""
    return 0 < begin and end < len(document) and is_document([("start", "z", ()), *document[begin:end], ("end", "z")])


def whole_pieces(chance, document):
    """A patch of pieces that are all whole."""
    pieces = []
    at = 1
    while at < len(document):
        ends = [end for end in range(at, len(document)) if is_whole(document, at, end)]
        end = chance.choice(ends)
        new = inside_in(chance.choice(["", "x", "<q/>", "<q>y</q>z"]))
        if chance.random() < 0.4 and (end > at or new):
            pieces.append((at, end, new))
            at = end
        at += 1
    return pieces


def exchanged(tree, exchanges, path=()):
    """The tree behind the exchanges, made child by child from the last one on."""
    if exchanges and exchanges[0][0] is None:
        return tree_of(exchanges[0][3])
    name, attributes, children = tree
    rows = [exchanged(child, exchanges, (*path, index)) if isinstance(child, tuple) else child for index, child in enumerate(children)]
    for where, index, many, new in sorted([row for row in exchanges if row[0] == path], key=lambda row: row[1], reverse=True):
        rows[index:index + many] = tree_of([("start", "z", ()), *new, ("end", "z")])[2]
    return name, attributes, tuple(rows)


if __name__ == "__main__":
    unittest.main()
