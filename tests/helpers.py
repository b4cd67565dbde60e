"""What several tests use: refusals looked at closely, things of all kinds, and rows of numbers to draw from."""

from blotsure import errors

NAMES = (
    "NotAlike", "OffStrip", "NoSheet", "NoFont", "NoSign", "NoHouse", "NoWords",
    "TooWide", "NoFiller", "NotTaken", "NoRow", "NoName", "NoNote",
)
VERY_FAR = 10 ** 699


class EqualToAll:
    """Says that it equals whatever it is held against, and can be looked up like a sign."""

    def __eq__(self, other):
        return True

    def __hash__(self):
        return hash("a")


# Nothing of these is a whole number; the texts among them are no signs.
NO_WHOLES_NO_SIGNS = (
    True, False, None, "", "ab", "aa", "10", "%", "\n", "\t", "\x7f", "\u00e9", "a\n", "a longer text",
    (), (1,), ("a",), ("a", "b"), (0, 1), [], [0], [1], ["a"], {}, {0: 1}, {"a": 1},
    0.0, 1.0, float("nan"), b"a", b"", {1}, {"a"}, frozenset("a"), range(1), object(), int, str, len, EqualToAll(),
)
NO_WHOLES = NO_WHOLES_NO_SIGNS + ("a", "0", "1", " ", "~")
NO_SIGNS = NO_WHOLES_NO_SIGNS + (0, 1, 2, 3, 40, 97, -1, VERY_FAR, -VERY_FAR)


def assert_refused(case, name, ask, *things):
    """The call is refused with the class of that name, and with none of the other twelve."""
    try:
        answer = ask(*things)
    except Exception as refusal:
        case.assertIsInstance(refusal, errors.BlotError, repr(things))
        case.assertIsInstance(refusal, ValueError)
        takers = [taker for taker in NAMES if isinstance(refusal, getattr(errors, taker))]
        case.assertEqual(takers, [name])
    else:
        case.fail(f"{ask.__name__}{things!r} is not refused, but answered {answer!r}")


def assert_all_tuples(case, thing):
    """Nothing in it can be changed: tuples all the way down, and numbers and texts in them."""
    if isinstance(thing, tuple):
        for part in thing:
            assert_all_tuples(case, part)
    else:
        case.assertIn(type(thing), (int, str))


class Draw:
    """Numbers that look drawn by lot, but are the same at each run and with each Python."""

    def __init__(self, seed):
        self.state = seed

    def below(self, bound):
        self.state = (self.state * 6364136223846793005 + 1442695040888963407) % 2 ** 64
        return (self.state >> 33) % bound

    def one_of(self, things):
        return things[self.below(len(things))]

    def shuffled(self, things):
        left = list(things)
        return [left.pop(self.below(len(left))) for _ in range(len(left))]
