"""What several tests use: all crossings, all rules, and values that are none."""

CROSSINGS = [(room, pause) for room in (1, 2, 3) for pause in (0, 1, 2)]

NUMBERS = (1, 2, 3, 4)

RULES = (
    [(word, number) for word in ("asked", "due", "empty", "longer") for number in NUMBERS]
    + [(word, one, two) for word in ("clock", "gap") for one in NUMBERS for two in NUMBERS]
)

DEEP_LIST = [[[[[[[[1]]]]]]]]
DEEP_TUPLE = ((((((((1,),),),),),),),)

# Neither a crossing nor a rule nor comings.
NOTHINGS = [
    None, True, False, 0, 1, 3, -1, 10 ** 5000, "", "12", "asked 1", "asked", "0123",
    (), [[]], ([],), [()], ((),), [None], (None,), [""], ("",), DEEP_LIST, DEEP_TUPLE,
    [1, [2, (3, None, "x", True)]], (1, [2, (3, None, "x", True)]),
]

NO_CROSSINGS = NOTHINGS + [
    [],
    (0, 0), (0, 1), (4, 0), (4, 2), (-1, 1), (1, -1), (1, 3), (3, 3), (3, -1), (2, 10 ** 5000),
    (True, 0), (True, 1), (1, True), (1, False), (2, True), (True, False),
    [2, 1], [1, 0], "21", ("2", "1"), ("2", 1), (2, "1"), (None, 1), (1, None),
    (2,), (2, 1, 0), (2, 1, None), ((2, 1),), ((2,), 1), (2, (1,)), ([2], 1), (2, [1]), [(2, 1)],
    (2, DEEP_LIST[0]), (DEEP_TUPLE[0], 1),
]

NO_RULES = NOTHINGS + [
    [],
    ["asked", 1], ["clock", 1, 2], [("asked", 1)], (("asked", 1),), (("asked",), 1), (["asked"], 1),
    ("asked",), ("due",), ("empty",), ("longer",), ("clock",), ("gap",), ("clock", 1), ("gap", 1),
    ("asked", 1, 1), ("due", 1, 1), ("empty", 1, 1), ("longer", 1, 1),
    ("clock", 1, 1, 1), ("gap", 1, 1, 1), ("asked", 1, None),
    ("Asked", 1), ("asked ", 1), ("ask", 1), ("", 1), ("rest", 1), ("clocks", 1, 1), ("gaps", 1, 1),
    (None, 1), (1, 1), (True, 1), (1, "asked"), (("clock", 1), 1), (DEEP_LIST[0], 1),
    ("asked", "1"), ("asked", None), ("asked", [1]), ("asked", (1,)), ("asked", DEEP_TUPLE[0]),
    ("clock", [1], 1), ("clock", 1, (1,)), ("clock", (1, 1)), ("gap", [1, 3]), ("asked", 10 ** 5000),
]

NO_COMINGS = NOTHINGS + [
    [-1], [4], [0, 1, 2, 3, 4], [-1, 0], [0] * 39 + [4], [10 ** 5000],
    [True], [False], [0, True], [1, False, 2], [0] * 39 + [False],
    (0,), (1, 2), (0,) * 40, "0", "012", ["0"], [0, "1"], [None, 0], [0, None], [[0]], [0, [1]],
    [(0,)], [0, (1, 2)], [0] * 41, [3] * 41, [0] * 1000, [1, DEEP_LIST[0]],
]


def rules_with(word, number):
    """Return the rules of a word in which one place holds number and all others 2."""
    if word in ("clock", "gap"):
        return [(word, number, 2), (word, 2, number)]
    return [(word, number)]


KINDS = (0, 1, 2, 3)

NO_KINDS = [kind for kind in NOTHINGS if kind not in KINDS or isinstance(kind, bool)] + [
    4, 5, -2, -10 ** 5000, [], [0], (0,), [0, 1, 2, 3], "3", "0", ["0"],
]

ROADS = (0, 1)

NO_ROADS = [road for road in NOTHINGS if road not in ROADS or isinstance(road, bool)] + [
    2, 4, -2, 10 ** 5000, [], [0], (0,), (1,), [0, 1], "0", "1", ["1"],
]

COUNTS = (0, 1, 2, 3, 4, 5)

NO_COUNTS = [many for many in NOTHINGS if many not in COUNTS or isinstance(many, bool)] + [
    6, 7, 40, -2, -10 ** 5000, [], [3], (3,), [0, 0], "3", "0", ["0"],
]

LIGHTS = (0, 1, None)

# No lists of at most 40 lights; [None] and [] are such.
NO_LIGHTS = [lights for lights in NOTHINGS if lights != [None]] + [
    [2], [-1], [3], [0, 1, 2], [None, 2], [0] * 39 + [2], [10 ** 5000],
    [True], [False], [0, True], [None, False], [0] * 39 + [False],
    (0,), (None,), (0, 1, None), (0,) * 40, "0", "01-", ["0"], ["-"], ["None"], [[0]], [0, [None]],
    [(0,)], [0, ()], [0] * 41, [None] * 41, [1] * 1000, [None, DEEP_LIST[0]],
]

# No ascending tuples of 1 to 3 rules.
NO_TOLD_RULES = NOTHINGS + [
    [], ("asked", 1), ["asked", 1], (("asked", 1), "asked 2"), "asked 1",
    [("asked", 1)], [("asked", 1), ("asked", 2)], (["asked", 1],), (["asked", 1], ["asked", 2]),
    (("asked", 1), ["asked", 2]), (["asked", 1], ("asked", 2)), ((("asked", 1),),), [(("asked", 1),)],
    (("asked", 1), ("asked", 1)), (("asked", 1), ("asked", 2), ("asked", 2)),
    (("asked", 1), ("asked", 1), ("asked", 2)), (("due", 1), ("due", 1), ("due", 1)),
    (("asked", 2), ("asked", 1)), (("due", 1), ("asked", 3)), (("clock", 1, 2), ("clock", 1, 1)),
    (("asked", 1), ("asked", 3), ("asked", 2)), (("longer", 1), ("gap", 1, 3), ("asked", 1)),
    (("asked", 2), ("asked", 3), ("asked", 1)), (("asked", 1), ("due", 1), ("asked", 1)),
    (("asked", 1), ("asked", 2), ("asked", 3), ("asked", 4)),
    tuple(sorted(RULES)), (("asked", 0),), (("asked", 5),), (("asked", True),), (("asked", 1, 1),),
    (("asked", 1), ("asked", False)), (("asked", 1), ("asked", 5)), (("asked", 0), ("asked", 1)),
    (("asked", 1), ("clock", 1)), (("asked", 1), None), (None, ("asked", 1)), (("asked", 1), 2),
    (("asked", 1), (2, 1)), (("asked", 1), ()), (("asked", 1), ("asked", "2")), ((), ()), (None, True),
    (("asked", 1), ("asked", 2), None), (("asked", 1), ("asked", 2), DEEP_TUPLE[0]),
]

NO_STRINGS = [text for text in NOTHINGS if not isinstance(text, str)] + [
    2, [], ["0"], ("0",), ["0", "1"], ["clock 2 1"], ("clock", 2, 1), ("clock", "2", "1"), ["-"], [None],
]

# Signs that look like figures, and some that stand beside texts easily.
OTHER_SIGNS = (
    " ", "\n", "\t", "\r", "\x0b", "\x00", "\xa0", "+", "_", ".", ",", "/", ":", "a", "O", "l", "I",
    "\u0661", "\u00b2", "\u00b9", "\uff11", "\u2160", "\u2081", "\u0967", "\u2013", "\u2212", "\u200b",
)


def told(*rules):
    """Return rules as hidden rules are told: as an ascending tuple."""
    return tuple(sorted(rules))
