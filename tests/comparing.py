"""All three ways held against the oracle, and against each other; and against too deep recursion."""

import contextlib
import sys

from cutback.machine import by_machine, moves, unloaded
from cutback.putting import by_putting
from cutback.running import by_plain
from tests.helpers import about, call, fun, name, num, pick, plus, take
from tests.oracle import history

THREE = (by_putting, by_machine, by_plain)
K = name("k")
X = name("x")
LATER = call(60, fun(61, "x", X), num(1))
HELD = about(plus(62, num(1), take(63, "k", K)))

# Closed pieces by which each row of point 7 comes about, and each way to be stuck.
ROWS = {
    "a fun": fun(10, "x", X),
    "a call of a shut": call(11, fun(12, "x", plus(13, X, X)), num(4)),
    "a call of a shut that tells itself": call(11, fun(12, "x", X), fun(13, "x", plus(14, X, X))),
    "a call of a kept": call(15, HELD, num(7)),
    "a call of a kept with a kept": call(15, about(take(16, "k", K)), HELD),
    "a plus": plus(17, num(2), num(3)),
    "a plus that is nought": plus(17, num(-2), num(2)),
    "a pick of nought": pick(18, num(0), num(2), LATER),
    "a pick of another": pick(18, num(-1), LATER, num(3)),
    "a round of a number": about(num(3)),
    "a round of a fun": about(fun(19, "x", X)),
    "a round of a kept": about(HELD),
    "a take": take(20, "k", num(9)),
    "a take, called once": take(20, "k", call(21, K, num(0))),
    "a take, called with a fun": take(20, "k", call(21, K, fun(22, "x", plus(23, X, num(1))))),
    "a take, called twice": take(20, "k", call(21, K, call(22, K, num(1)))),
    "a take, in a sum": take(20, "k", plus(21, call(22, K, num(0)), call(23, K, num(1)))),
    "a take, told": take(20, "k", K),
    "a call of a number": call(24, num(1), num(2)),
    "a plus with a fun": plus(25, num(1), fun(26, "x", X)),
    "a plus of a kept": plus(27, HELD, num(1)),
    "a pick of a fun": pick(28, fun(29, "x", X), num(1), num(2)),
}

# Each frame of point 6 about a part.
ABOUT = {
    "caller": lambda part: call(40, part, LATER),
    "caller with a value": lambda part: call(40, part, num(0)),
    "given to a shut": lambda part: call(41, fun(42, "x", plus(43, X, X)), part),
    "given to a shut that drops it": lambda part: call(41, fun(42, "x", num(8)), part),
    "given to a kept": lambda part: call(41, HELD, part),
    "given to a number": lambda part: call(41, num(1), part),
    "adder": lambda part: plus(44, part, LATER),
    "added": lambda part: plus(45, num(4), part),
    "added to a fun": lambda part: plus(45, fun(46, "x", X), part),
    "picker": lambda part: pick(47, part, LATER, num(2)),
    "picker of the other": lambda part: pick(47, part, num(2), LATER),
    "round": about,
    "round, something behind it": lambda part: plus(48, about(part), num(100)),
}


def compare(test, piece, fuels=None):
    """All three ways with each of these fuels, or with all up to some more than is needed."""
    rows, due = history(piece, 1000)
    test.assertNotEqual(due, ("dry",))
    steps = len(rows) - 1
    for fuel in range(steps + 3) if fuels is None else fuels(steps):
        for way in THREE:
            answer = way(piece, fuel)
            test.assertIs(type(answer), tuple)
            test.assertEqual(answer, due if fuel >= steps else ("dry",), (way, piece, fuel))


def compare_states(test, piece, most=40):
    """The states of a piece, unloaded, held against the pieces that the oracle tells."""
    rows, _ = history(piece, most)
    seen = 0
    for fuel, row in enumerate(rows):
        states = moves(piece, fuel)
        test.assertIs(type(states), list)
        # Those which one more step has added; between two steps are at most 100.
        test.assertTrue(1 <= len(states) - seen <= 100, (len(states), seen))
        for state in states[seen:]:
            test.assertEqual(unloaded(state), row)
        seen = len(states)
    if len(rows) <= most:
        for fuel in (len(rows), len(rows) + 1, 10000, 10 ** 6):
            test.assertEqual(len(moves(piece, fuel)), seen)


@contextlib.contextmanager
def no_deep_recursion(further=300):
    """Lets what is within go only a few hundred calls deeper."""
    depth = 0
    frame = sys._getframe()
    while frame is not None:
        depth += 1
        frame = frame.f_back
    limit = sys.getrecursionlimit()
    sys.setrecursionlimit(depth + further)
    try:
        yield
    finally:
        sys.setrecursionlimit(limit)
