"""Things that several tests hand in."""

# One right DEED of each word, and what lines.shown_page writes behind its name.
DEEDS = (
    (("sit", "ann", "one"), "sit ann one"),
    (("move", "ann", "two"), "move ann two"),
    (("join", "one", "two"), "join one two"),
    (("go", "ann"), "go ann"),
    (("ask", 3, "soup", 0, ("ann", "bob")), "ask 3 soup 0 ann bob"),
    (("change", 3, "tea"), "change 3 tea"),
    (("fire", "one", 1), "fire one 1"),
    (("rush", "one", 2), "rush one 2"),
    (("serve", 3), "serve 3"),
    (("back", 4), "back 4"),
    (("strike", 0), "strike 0"),
    (("pay", "ann", 450), "pay ann 450"),
    (("take", "ann", "bob", 300), "take ann bob 300"),
    (("even", ("ann", "bob", "cy")), "even ann bob cy"),
)

DEED_WORDS = ("sit", "move", "join", "go", "ask", "change", "fire", "rush",
              "serve", "back", "strike", "pay", "take", "even")

# The example that DOC.md writes in [82].
HOUSE = ((("soup", 10, ((0, 450), (900, 500))), ("tea", 2, ((0, 200),))),
         ((("soup", "tea"), 600, 720, 50),), 40, 2)
HOUSE_TEXT = "soup/10/0:450,900:500 tea/2/0:200 | soup+tea/600/720/50 | 40 2"


def deep(levels, within=1):
    """A thing within so many tuples and lists, by turns."""
    thing = within
    for level in range(levels):
        thing = (thing,) if level % 2 else [thing]
    return thing


# Things of every kind, none of which is a MENU, a DEED, a PAGE or a list of JOBS with rows.
ANY_THINGS = (
    None, True, False, 0, 1, -1, 10 ** 199, -(10 ** 199),
    "", " ", "a", "ann", "soup", "sit", "abcdefgh", "abcdefghi", "Ann", "a1", "a b", "a-b", "~",
    "x" * 4000, [], [()], [[]], ((),), ([],), (None,), (True,), (0,), (1, 2), ("a",), ("a", 1),
    (("a",), ("b",)), [("a", 1, ((0, 1),))], (["sit", "ann", "one"],), ((), (), ()), (((),),),
    ([], [], []), ([], 1), (["sit"], "ann"), ((["sit"],), "ann"), (("sit",), "ann", "one"),
    deep(20), deep(20, "a"), deep(20, None), tuple(range(5000)), [None] * 5000,
)


def swapped(thing, at, part):
    """The tuple with another part in this place."""
    return thing[:at] + (part,) + thing[at + 1:]
