"""Values for the tests of several modules."""


class Same:
    """Says of each value that it is the same one."""

    __hash__ = None

    def __eq__(self, other):
        return True


ODD_CONTENTS = [Same(), (Same(),), (Same(), ("empty",)), (Same(), (("empty",), ("empty",))), None, True, False, 0, 1,
                1.5, "", "a", "empty", b"a", [], ["empty"], (), {}, {"empty": 1}, {1}, object(), len]
A, B, C, D = [("type", name) for name in "abcd"]
EMPTY, CHARS = ("empty",), ("chars",)


def spoiled_contents():
    rows = [(), (None,), ("a",), ("char",), ("type",), ("seq",), ("star",), (("empty",),), ("empty", ()), ("empty", A),
            ("chars", "a"), ("chars", ()), ("type", "a", "b"), ("type", ("a",)), ("star", A, B), ("plus",),
            ("maybe", A, A), ("seq", A, B), ("or", A, B), ("seq", ()), ("seq", (A,)), ("or", (A,)), ("or", ()),
            ("seq", [A, B]), ("or", [A, B]), ("seq", "ab"), ("or", {"a": 1, "b": 2}), ("seq", None), ("or", 2),
            ("Star", A), ("opt", A), ("", A), (1, A), (True, A), (["star"], A), (None, A), ("star", ()),
            ["empty"], ["type", "a"], ["seq", (A, B)], ["star", A], ("star", ["type", "a"]), ("empty", "empty"),
            ("char", "a"), ("maybe", (A, B)), ("name", "a"), ("type", None), ("seq", (A, B), C)]
    rows += [("type", name) for name in (Same(), "", "A", "1", "abcdefghi", "a b", "empty", "chars", "char", 1, True,
                                         ["a"], ("a",), b"a", "a%", "\u00e9")]
    return rows + ODD_CONTENTS


def random_content(chance, depth):
    kind = chance.randrange(9 if depth else 4)
    if kind < 2:
        return ("type", chance.choice(["a", "b", "c2", "type", "root"]))
    if kind < 4:
        return (EMPTY, CHARS)[kind - 2]
    if kind < 6:
        many = chance.randrange(2, 4)
        return ("seq", "or")[kind - 4], tuple(random_content(chance, depth - 1) for _ in range(many))
    return ("star", "plus", "maybe")[kind - 6], random_content(chance, depth - 1)
