"""What several tests use: short names for pieces and values, deep ones, a watchdog."""

import contextlib
import faulthandler
import sys

TOP = 10 ** 12 - 1


def num(n):
    return ("num", n)


def name(x):
    return ("name", x)


def fun(at, x, b):
    return ("fun", at, x, b)


def call(at, f, a):
    return ("call", at, f, a)


def plus(at, a, b):
    return ("plus", at, a, b)


def pick(at, c, a, b):
    return ("pick", at, c, a, b)


def about(b):
    return ("round", b)


def take(at, x, b):
    return ("take", at, x, b)


def shut(at, x, b):
    return ("shut", at, x, b)


def kept(at, *frames):
    return ("kept", at, frames)


# One part of a piece is left out in each; with_part puts something there.
HOLES = {
    "fun": lambda part: fun(1, "x", part),
    "call f": lambda part: call(1, part, num(2)),
    "call a": lambda part: call(1, num(2), part),
    "plus a": lambda part: plus(1, part, num(2)),
    "plus b": lambda part: plus(1, num(2), part),
    "pick c": lambda part: pick(1, part, num(2), num(3)),
    "pick a": lambda part: pick(1, num(2), part, num(3)),
    "pick b": lambda part: pick(1, num(2), num(3), part),
    "round": lambda part: about(part),
    "take": lambda part: take(1, "x", part),
}


def nested(part, hole, times):
    """A part with the same hole about it so many times."""
    for _ in range(times):
        part = hole(part)
    return part


def doubled(part, times):
    """One part twice in each of many, one within the other."""
    return nested(part, lambda inner: plus(1, inner, inner), times)


def wide(knots):
    """A closed piece with so many knots that is not deep."""
    if knots == 1:
        return num(0)
    if knots == 2:
        return about(num(0))
    left = (knots - 1) // 2
    return plus(1, wide(left), wide(knots - 1 - left))


def same(one, other):
    """Whether two are equal, and of the same kinds.

    They may be nested very deep, and a part may stand in so many places that
    nobody could go through all of them: each pair of parts is looked at once.
    """
    waiting = [(one, other)]
    seen = set()
    while waiting:
        left, right = waiting.pop()
        if type(left) is not type(right):
            return False
        if not isinstance(left, tuple):
            if left != right:
                return False
        elif (id(left), id(right)) not in seen:
            seen.add((id(left), id(right)))
            if len(left) != len(right):
                return False
            waiting.extend(zip(left, right))
    return True


@contextlib.contextmanager
def in_time(seconds=60):
    """Ends the whole run, as failed, where what is within takes too long.

    A watchdog of its own is needed: a hash or a comparison that takes forever
    does not let a signal through.
    """
    faulthandler.dump_traceback_later(seconds, exit=True, file=sys.__stderr__)
    try:
        yield
    finally:
        faulthandler.cancel_dump_traceback_later()


ONES = {
    "num": num(3),
    "name": name("x"),
    "fun": fun(1, "x", name("x")),
    "call": call(2, name("f"), num(1)),
    "plus": plus(3, num(1), name("y")),
    "pick": pick(4, num(0), name("a"), num(2)),
    "round": about(num(1)),
    "take": take(5, "k", name("k")),
}

WHOLE_WRONG = [True, False, None, "1", "", 1.0, 0.5, (), (1,), [1], num(1), b"1", {}, 1j]

NAME_WRONG = [
    "", "abcdefghi", "A", "aB", "a b", "a1", "a_", "a\n", "\na", " a", "a ", "`", "{", "a-b", "\t",
    None, True, 1, b"a", ("a",), ["a"], name("a"), (), {"a": 1},
]

PIECE_WRONG = [
    None, True, False, 0, 1, 2.5, "", "num", "x", b"num", (), [], {}, object(), (1,), (None,),
    ((),), (("num",), 1), (["num"], 1), ({}, 1), (b"num", 1), ("Num", 1), ("num ", 1), ("", 1), (0, 1), (True, 1),
    ("num",), ("num", 1, 2), ["num", 1], ("num", (1,)), ("number", 1),
    ("name",), ("name", "x", "y"), ["name", "x"], ("name", ("x",)),
    ("fun",), ("fun", 1), ("fun", 1, "x"), ("fun", 1, "x", num(1), num(1)), ("fun", "x", num(1)),
    ["fun", 1, "x", num(1)], ("fun", 1, "x", ["num", 1]), ("fun", "x", 1, num(1)), ("fun", 1, name("x"), num(1)),
    ("call", num(1), num(1)), ("call", 1, num(1)), ("call", 1, num(1), num(1), num(1)), ["call", 1, num(1), num(1)],
    ("plus", num(1), num(1)), ("plus", 1, num(1)), ("plus", 1, num(1), num(1), num(1)), ["plus", 1, num(1), num(1)],
    ("pick", num(1), num(1), num(1)), ("pick", 1, num(1), num(1)), ("pick", 1, num(1), num(1), num(1), num(1)),
    ["pick", 1, num(1), num(1), num(1)],
    ("round",), ("round", 1, num(1)), ("round", num(1), num(1)), ["round", num(1)], ("round", [num(1)]),
    ("take",), ("take", 1, "x"), ("take", 1, "x", num(1), num(1)), ("take", "x", num(1)),
    ["take", 1, "x", num(1)], ("take", "x", 1, num(1)),
    shut(1, "x", num(1)), kept(1), kept(1, ("round",)), ("caller", 1, num(1)), ("given", 1, num(1)),
    ("adder", 1, num(1)), ("added", 1, num(1)), ("picker", 1, num(1), num(1)),
]


def wrong_things():
    """Things that are no pieces: each wrong thing alone, and as one part of a piece."""
    rows = list(PIECE_WRONG)
    rows += [num(n) for n in WHOLE_WRONG + [10 ** 12, -10 ** 12, 10 ** 12 + 1, -10 ** 12 - 1, 10 ** 40]]
    rows += [name(x) for x in NAME_WRONG]
    for at in WHOLE_WRONG + [-1, 10000, -10 ** 20, 10 ** 20]:
        rows += [fun(at, "x", num(1)), call(at, fun(1, "x", num(1)), num(1)), plus(at, num(1), num(1))]
        rows += [pick(at, num(0), num(1), num(1)), take(at, "x", num(1))]
    for x in NAME_WRONG:
        rows += [fun(1, x, num(1)), take(1, x, num(1))]
    for hole in HOLES.values():
        rows += [hole(part) for part in PIECE_WRONG + [num(True), num(10 ** 12), num(-10 ** 12), name("")]]
    return rows


def too_large():
    """Things with too many knots, or too deep; some of them nobody could go through."""
    rows = [wide(301), wide(302), wide(1000), nested(num(1), about, 30), nested(num(1), about, 31)]
    rows += [nested(num(1), hole, 30) for hole in HOLES.values()]
    rows += [doubled(num(1), times) for times in (8, 9, 12, 29, 30, 80)]
    rows += [num(doubled(num(1), 80)), name(doubled(num(1), 80)), (doubled(num(1), 80), 1)]
    rows += [fun(doubled(num(1), 80), "x", num(1)), fun(1, doubled(num(1), 80), num(1))]
    rows += [take(doubled(num(1), 80), "x", num(1)), take(1, doubled(num(1), 80), num(1))]
    rows += [nested((), lambda part: (part, part), 80), nested([], lambda part: [part, part], 80)]
    rows += [nested(num(1), lambda part: call(1, fun(1, "x", part), part), 14)]
    rows += [nested(num(1), lambda part: pick(1, part, part, part), 28)]
    rows += [nested(num(1), lambda part: ("plus", 1, part, part, part), 80)]
    return rows
