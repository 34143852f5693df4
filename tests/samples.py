"""Things that the tests pass around: values in their order, and things that are none."""


def tuples_over(ascending):
    """All tuples of at most two of these values, ascending if the values are."""
    found = [()]
    for first in ascending:
        found.append((first,))
        found.extend([(first, second) for second in ascending])
    return found


ATOMS = [None, False, True, -10 ** 39, -2, -1, 0, 1, 2, 9, 10, 10 ** 39,
         "", " ", "0", "1", "A", "False", "None", "a", "a b", "ab", "b", "none"]
FEW = [None, False, True, -1, 0, 1, "", "a", "none"]
FLAT = tuples_over(FEW)
DEEP = [None, False, True, 0, 1, "a", (), (None,), (False,), (False, 0), (0,), (0, False), (0, 0), ("a",), ("a", ())]
DEEPER = [True, 1, (), (True,), (1,), (1, (True,)), (1, (1,)), ((),), ((True,), 1), ((1,), True), (((((True,),),),),),
          (((((1,),),),),)]

# One row of ascending values for each way to build tuples. They are ascending by the way they are built.
ROWS = [ATOMS + tuples_over([None, True, 1, "a"]), FEW + FLAT, DEEP[:6] + tuples_over(DEEP),
        DEEPER[:2] + tuples_over(DEEPER)]

KINDS = [("none", [None]), ("bool", [False, True]), ("int", [-10 ** 39, -1, 0, 1, 10 ** 39]),
         ("text", ["", "a", "none", "1", "a\nb", "()"]),
         ("tuple", [(), (None,), (1, 2), ((), ((),)), ("a", (True, (0, None)))])]
VALUES = [value for _, values in KINDS for value in values]


class Stranger:
    """An object that is no value."""


NO_VALUES = [[], [1], {}, {"a": 1}, {1}, 1.0, b"a", Stranger(), Stranger, ([],), (1, [2]), ({},), (1, (2, (3, [4]))),
             ((((([],),),),),), (None, ("a", {"b": ()})), (1.5,), (b"",)]

NAMES = ["a", "z", "it", "abcdefgh", "zzzzzzzz", "paths", "selfs", "sel", "none"]
NO_NAME_TEXTS = ["", "A", "aB", "abcdefghi", "self", "path", "a1", "1", "a_b", "_a", "a b", " a", "a ", "a\n", "a.b",
                 "."]
NO_NAMES = NO_NAME_TEXTS + [None, 1, True, (), ("a",), ["a"], {"a": 1}, b"a"]

PATHS = NAMES + ["db.open", "a.b", "a.a", "a.b.c", "a.b.c.d", "abcdefgh.abcdefgh.abcdefgh.abcdefgh", "selfs.paths"]
NO_PATHS = ["", ".", "a.", ".a", "a..b", "a.b.c.d.e", "a.b.c.", "A", "a.B", "abcdefghi", "a.abcdefghi.b",
            "self", "path", "a.self", "path.b", "a.b.c.path", "a1", "a_b", "a-b", "a b", " a", "a ", "a. b", "a\n",
            "a,b", 1, 0, True, False, (), ("a",), ["a"], ["a", "b"], {"a": 1}, b"a", Stranger()]

CALLS = [("a", (), ()), ("db.open", (1,), ()), ("db.open", (True,), ()), ("a.b.c.d", (None, "x", (1, (2,))), ()),
         ("it", (), (("a", 1),)), ("it", (), (("a", True), ("b", ()), ("zz", "text"))),
         ("it", (1, 2), (("ab", None), ("b", (1,))))]
NO_CALLS = [None, 1, True, "", "a", "a()", (), [], {}, Stranger(), ("a",), ("a", ()), ("a", (), (), ()),
            ["a", (), ()], ("a", [], ()), ("a", (), []), ("a", [1], ()), ("a", (), {}),
            ("a", None, ()), ("a", (), None), ("a", 1, ()), ("a", "", ()), ("a", (), ""), ("a", (), "ab"),
            ("a", ([],), ()), ("a", (1, (2, [3])), ()), ("a", (1.5,), ()), ("a", (Stranger(),), ()),
            ("a", (), ("a", 1)), ("a", (), (["a", 1],)), ("a", (), (("a",),)), ("a", (), (("a", 1, 2),)),
            ("a", (), ((),)),
            ("a", (), ("ab",)), ("a", (), (None,)), ("a", (), (("a", []),)), ("a", (), (("a", (1, [])),)),
            ("a", (), (("b", 1), ("a", 1))), ("a", (), (("a", 1), ("a", 1))), ("a", (), (("a", 1), ("a", 2))),
            ("a", (), (("a", 1), ("c", 1), ("b", 1))), ("a", (), (("ab", 1), ("a", 1)))]
NO_CALLS = (NO_CALLS + [(path, (), ()) for path in NO_PATHS + [None]]
            + [("a", (), ((name, 1),)) for name in NO_NAMES])
