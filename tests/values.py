"""Values that the tests share."""

# Of other kinds than an integer; True and False are none here.
NO_INTEGERS = [None, True, False, "1", "", b"1", [], [1], (), (1,), {}, {1: 1}, {1}, object()]
# Of other kinds than a list, and than a tuple.
NO_LISTS = [None, True, 0, 1, "", "work", b"work", (), {}, {0: ("work", 1)}, set(), object(), list]
NO_TUPLES = [None, True, 0, 1, "", "first", b"first", [], {}, {0: "first"}, {"first"}, object(), tuple]

TAKE_0 = ("take", 0)
TAKE_1 = ("take", 1)
GIVE_0 = ("give", 0)
GIVE_1 = ("give", 1)

NO_DEEDS = [
    (), ("work",), ("work", 1, 1), ["work", 1], ("work", 0), ("work", 100), ("work", -1),
    ("sleep", 0), ("sleep", 100), ("take", 2), ("take", -1), ("give", 2), ("give", -1),
    ("run", 1), ("", 1), ("Work", 1), ("work ", 1), (b"work", 1), (None, 1), (0, 1), (1, "work"),
    (["work"], 1), (("work",), 1), ({"work": 1}, 1), ({"work"}, 1), "work", "ab",
] + NO_TUPLES + [
    (kind, number) for kind in ("work", "sleep", "take", "give") for number in NO_INTEGERS
]

NO_PROGRAMS = NO_LISTS + [
    (("work", 1),), [[("work", 1)]], [("work", 1), None],
    [("work", 1)] * 41, [TAKE_0], [GIVE_0], [TAKE_1], [GIVE_1],
    [TAKE_0, GIVE_0, GIVE_0], [TAKE_0, TAKE_0, GIVE_0], [TAKE_0, TAKE_0, GIVE_0, GIVE_0],
    [GIVE_0, TAKE_0], [TAKE_0, GIVE_1], [TAKE_0, TAKE_1, GIVE_0], [TAKE_0, TAKE_1, GIVE_1],
    [TAKE_0, ("sleep", 1), GIVE_0], [TAKE_1, ("sleep", 1), GIVE_1],
    [TAKE_0, TAKE_1, GIVE_0, ("sleep", 1), GIVE_1],
    [TAKE_0, TAKE_1, GIVE_1, ("sleep", 1), GIVE_0],
] + [[deed] for deed in NO_DEEDS] + [[("work", 1), deed] for deed in NO_DEEDS]

NO_HALLS = NO_LISTS + [
    [], [(0, [])] * 5, ((0, []),), [[0, []]], [(0,)], [(0, [], [])], [()], [0, []], [[]], [None],
    [(-1, [])], [(100, [])], [(0, ())], [([], 0)], [(0, []), (-1, [])], [(0, []), (100, [])],
    [(0, []), None],
] + [[(time, [])] for time in NO_INTEGERS] + [[(0, program)] for program in NO_PROGRAMS] + [
    [(0, []), (0, program)] for program in NO_PROGRAMS
]

H = [(0, [("work", 2)]), (1, [("work", 1)])]

# None of these is a scheduler for two processes; some are for other sizes.
NO_SCHEDULERS = NO_TUPLES + [
    (), ("next",), ("first", 0), ("last", 1), ["first"], (["first"],), (b"first",), (True,),
    ("order", (0, 1), 0), ("order", (0,), 0, ("plain",)), ("order", (0, 1, 2), 0, ("plain",)),
    ("order", [0, 1], 0, ("plain",)), ("order", (False, True), 0, ("plain",)),
    ("order", (0, 1), 2, ("plain",)), ("order", (0, 1), True, ("plain",)),
    ("order", (0, 1), 0, "plain"), ("order", (0, 1), 0, ("top", (0, 2))), ("order", (0, 1), 0, ("top", [0, 1])),
    ("rounds", 0, 0), ("rounds", 5, 0), ("rounds", 1, 2), ("rounds", True, 0), ("rounds", 1, False),
    ("levels", (), 0), ("levels", (1, 1, 1, 1), 0), ("levels", (5,), 0), ("levels", [1], 0),
    ("levels", (1,), 9), ("levels", (1,), -1), ("levels", (True,), 0), ("levels", (1,), None),
    ("aging", (0, 1), 0), ("aging", (0, 1), 4), ("aging", (1, 1), 1), ("aging", (0, 1), "1"),
    ("due", (1,)), ("due", (1, 1, 1)), ("due", (0, 1)), ("due", (1, 7)), ("due", [1, 1]),
    ("shares", (1,)), ("shares", (1, 1, 1)), ("shares", (0, 1)), ("shares", (1, 5)), ("shares", (1, True)),
]

NO_FAMILIES = NO_LISTS + [
    [], [("first",)] * 41, (("first",),), {("first",): 1}, [[("first",)]], ("first",),
] + [[value] for value in NO_SCHEDULERS] + [[("first",), value] for value in NO_SCHEDULERS]

NO_UNITS = [-1, 201] + NO_INTEGERS

# None of these is a record.
NO_RECORDS = NO_TUPLES + [
    (), (H,), (H, [], []), [H, []], ([], H), (H, ()), (H, (0,)), (H, None), (H, 0), (H, "0"), (H, {}),
    (H, {0: 0}), (H, [0] * 201), (H, [2]), (H, [-1]), (H, [0, 2]), (H, [[0]]), (H, [(0,)]), ((H, []),),
] + [(H, [value]) for value in NO_INTEGERS if value is not None] + [(hall, []) for hall in NO_HALLS]
