"""What several of the test files need: rows of wishes, wrong values, a check of refusals."""

from itertools import product

from keepfew.errors import BadName, BadPlaces, BadRule, BadWishes, KeepError

KINDS = (BadName, BadPlaces, BadRule, BadWishes)


class Prickly:
    """A foreign object: it lies about its class, and whoever looks at it closely fails."""

    def __init__(self, shown):
        self.shown = shown

    def _fail(self, *rest):
        raise RuntimeError("looked at too closely")

    @property
    def __class__(self):
        return self.shown

    __eq__ = __ne__ = __lt__ = __le__ = __gt__ = __ge__ = _fail
    __hash__ = __len__ = __iter__ = __contains__ = __getitem__ = _fail
    __bool__ = __str__ = __repr__ = __int__ = __index__ = _fail


def loop():
    """A list that contains itself."""
    rows = []
    rows.append(rows)
    return rows


# Of no kind that is asked for anywhere: neither text, number nor list.
FOREIGN = [
    None, True, False, 3.0, float("nan"), 2j, b"a", b"old", bytearray(b"a"),
    (), ("a",), ("old",), (3,), (("a",),), {}, {"a": 1}, {"a": ["b"]}, {3: 3},
    set(), {"a"}, frozenset("a"), range(3), iter("a"), len, str, object(), Ellipsis,
    Prickly(str), Prickly(int), Prickly(list),
]
WRONG_TEXTS = [
    "", " ", "\n", "abcdefghi", "abcdefgh ", "A", "aB", "Ab", "a1", "1", "a b", " a", "a ",
    "a\n", "\na", "a\r\n", "`", "{", "@", "[", "a-b", "a_b", "a.b", "~",
]
WRONG_NAMES = FOREIGN + WRONG_TEXTS + [0, 1, -1, [], ["a"], [["a"]], loop()]
WRONG_PLACES = FOREIGN + [
    0, 21, -1, -20, 22, 10 ** 30, -10 ** 30, "", "3", "a", "old", [], [3], [[3]], loop(),
]
WRONG_RULES = FOREIGN + [
    "", " ", "\n", "Old", "OLD", "old ", " old", "old\n", "ol", "olds", "oldcold", "best",
    "mark", "Marked", "shelf", "a", 0, 1, 3, -1, [], ["old"], [["old"]], loop(),
]
WRONG_LISTS = FOREIGN + [
    0, 3, -1, "", "a", "abc", ("a", "b"), loop(), [[]], [["a"]], [("a",)], [{"a": 1}],
    ["a"] * 301, ["a"] * 302, ["a"] * 3000, [""] * 301,
]


def wrong_wishes():
    """All wrong lists, and good ones with one wrong entry in front, amid and behind."""
    found = list(WRONG_LISTS)
    for wrong in WRONG_NAMES:
        found.append([wrong])
        found.append([wrong, "a", "b", "a"])
        found.append(["a", "b", wrong, "a"])
        found.append(["a", "b", "a", wrong])
        found.append(["a"] * 299 + [wrong])
    return found


def assert_refused(case, kind, call, *given):
    """The call is refused as just this kind, which is a KeepError and a ValueError."""
    try:
        call(*given)
    except Exception as e:
        case.assertIsInstance(e, kind)
        case.assertIsInstance(e, KeepError)
        case.assertIsInstance(e, ValueError)
        case.assertEqual([k for k in KINDS if isinstance(e, k)], [kind])
    else:
        case.fail(f"not refused as {kind.__name__}")


def short_rows(letters, longest):
    """All rows of wishes of these things, up to a length."""
    return [list(row) for many in range(longest + 1) for row in product(letters, repeat=many)]


def long_rows(things, many, length=60):
    """Some long rows of wishes of the things, uneven, and the same ones each time."""
    found = []
    state = 7
    for _ in range(many):
        row = []
        for _ in range(length):
            state = (state * 1103515245 + 12345) % 2147483648
            most = len(things) if state // 65536 % 3 else (len(things) + 1) // 2
            row.append(things[state // 1024 % most])
        found.append(row)
    return found


def names(many):
    """So many unlike names."""
    letters = "abcdefghijklmnopqrstuvwxyz"
    return [first + second for first in letters for second in letters][:many]


def shaped_rows():
    """Rows of many shapes: none and 300 wishes, few things and many, loops and turns."""
    found = [[], ["a"], ["a", "a"], ["a", "b"], ["a", "b", "a"], ["abcdefgh"] * 300, names(300)]
    for many in (2, 3, 20, 21, 40):
        things = names(many)
        found.append((things * 300)[:300])
        found.append(((things + things[::-1]) * 300)[:300])
    for many in (2, 4, 7, 19, 30):
        found += long_rows(names(many), 3)
    for many in (3, 9, 25, 100):
        found += long_rows(names(many), 1, 300)
    for many in (3, 8, 24):
        # Now of these things, now of those, and one of all amid them.
        near, far = long_rows(names(many), 2, 50), long_rows(names(3 * many)[many:], 2, 49)
        found.append(near[0] + ["z"] + far[0] + ["z"] + near[1] + ["z"] + far[1] + ["z"])
    return found


def wish_all(shelf, wishes):
    """What a shelf told of each wish."""
    return [shelf.wish(name) for name in wishes]


def state_of(shelf):
    """All that a shelf tells of itself."""
    told = [shelf.places(), shelf.things(), shelf.met(), shelf.missed()]
    for name in ("order", "marks", "rounds"):
        if hasattr(shelf, name):
            told.append(getattr(shelf, name)())
    return told
