"""Deeds of every sort, and each way in which a deed can be none."""

from helpers import TOP, apart

# One of every sort, by their stamps.
SORTS = [
    (2, 1, 1, ("put", 0, 5)),
    (0, 1, 2, ("add", 5, -5)),
    (2, 2, 2, ("back", 2, 1)),
    (0, 2, 3, ("seal", ((0, 1, 1), (2, 1, 2)))),
    (7, 1, 3, ("seal", ())),
    (0, 4, 4, ("bye",)),
]

# Edges that the document names, each a deed.
GOOD = [
    (0, 1, 1, ("bye",)), (7, 1, 1, ("bye",)), (0, TOP, TOP, ("bye",)), (7, TOP, TOP, ("bye",)),
    (3, 1, TOP, ("bye",)), (3, 9, 9, ("bye",)), (3, 9, 10, ("bye",)),
    (0, 1, 1, ("put", 0, 0)), (0, 1, 1, ("put", 5, TOP)), (0, 1, 1, ("put", 5, -TOP)),
    (0, 1, 1, ("add", 0, 0)), (0, 1, 1, ("add", 5, TOP)), (0, 1, 1, ("add", 5, -TOP)),
    (0, 1, 1, ("back", 0, 1)), (0, 1, 1, ("back", 7, TOP)), (0, 1, 1, ("back", 0, TOP)),
    (0, 1, 1, ("seal", ())), (0, 1, 1, ("seal", ((0, 1, 1),))), (0, 1, 1, ("seal", ((7, 1, TOP),))),
    (0, 1, 1, ("seal", ((0, 1, 4), (0, 6, 9), (1, 10, 10), (7, TOP, TOP)))),
    (0, 1, 1, ("seal", ((0, 1, 4), (1, 5, 9)))),
    (0, 1, 1, ("seal", tuple(apart(4, 2)))),
]

WRONG_WHAT = [
    (), ("put",), ("put", 0), ("put", 0, 1, 2), ("add",), ("add", 0), ("add", 0, 1, 2),
    ("put", -1, 0), ("put", 6, 0), ("put", 0, TOP + 1), ("put", 0, -TOP - 1),
    ("add", -1, 0), ("add", 6, 0), ("add", 0, TOP + 1), ("add", 0, -TOP - 1),
    ("put", "0", 1), ("put", 0, "1"), ("put", None, 1), ("put", 0, None), ("put", True, 1), ("add", 0, True),
    ("back",), ("back", 0), ("back", 0, 1, 2), ("back", -1, 1), ("back", 8, 1), ("back", 0, 0), ("back", 0, -1),
    ("back", 0, TOP + 1), ("back", (0, 1)), ("back", None, 1), ("back", 0, "1"), ("back", False, 1),
    ("seal",), ("seal", (), ()), ("seal", 0), ("seal", None), ("seal", (0, 1, 1)), ("seal", ((),)),
    ("seal", ((0, 1),)), ("seal", ((0, 1, 1, 1),)), ("seal", ((8, 1, 1),)), ("seal", ((-1, 1, 1),)),
    ("seal", ((0, 0, 1),)), ("seal", ((0, 1, TOP + 1),)), ("seal", ((0, 2, 1),)), ("seal", [(0, 1, 1)]),
    ("seal", ((0, 1, 1), (0, 3, 2))), ("seal", (0, 1, 1), (0, 3, 3)),
    # Not by the fewest rows, or not rising.
    ("seal", ((0, 1, 1), (0, 2, 2))), ("seal", ((0, 1, 9), (0, 3, 4))), ("seal", ((0, 1, 9), (0, 1, 9))),
    ("seal", ((0, 1, 5), (0, 4, 9))), ("seal", ((0, 5, 5), (0, 1, 1))), ("seal", ((1, 1, 1), (0, 1, 1))),
    ("seal", ((0, 1, 1), (1, 1, 1), (1, 2, 2))), ("seal", ((0, TOP - 1, TOP - 1), (0, TOP, TOP))),
    # A set has no 201st row.
    ("seal", tuple(apart(4, 2, count=201))),
    ("bye", 0), ("bye", ()), ("bye", "bye"),
    ("Put", 0, 1), ("sub", 0, 1), ("", 0, 1), ("",), (None,), (0,), (0, 0, 1), (("put", 0, 1),), (["bye"],),
    "bye", "put", None, 0,
]

# Each way in which a deed can be none.
WRONG = [
    (), (0,), (0, 1), (0, 1, 1), (0, 1, 1, ("bye",), 0), (0, 1, 1, "put", 0, 5),
    (-1, 1, 1, ("bye",)), (8, 1, 1, ("bye",)), (TOP, 1, 1, ("bye",)),
    (0, 0, 1, ("bye",)), (0, -1, 1, ("bye",)), (0, 0, 0, ("bye",)), (0, -2, -1, ("bye",)),
    (0, TOP + 1, TOP + 1, ("bye",)), (0, TOP + 1, TOP, ("bye",)),
    (0, 2, 1, ("bye",)), (0, TOP, TOP - 1, ("bye",)), (0, 1, 0, ("bye",)), (0, 1, -1, ("bye",)),
    (0, 1, TOP + 1, ("bye",)), (0, TOP, TOP + 1, ("bye",)),
    ("0", 1, 1, ("bye",)), (0, "1", 1, ("bye",)), (0, 1, "1", ("bye",)), (None, 1, 1, ("bye",)),
    (0, None, 1, ("bye",)), (0, 1, None, ("bye",)), (True, 1, 1, ("bye",)), (0, True, 1, ("bye",)),
    (0, 1, True, ("bye",)), (("bye",), 1, 1, 0), (0, 1, ("bye",), 1),
    [0, 1, 1, ("bye",)], None,
] + [(0, 1, 1, what) for what in WRONG_WHAT]
