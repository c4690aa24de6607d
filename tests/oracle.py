"""A second way to tell points 5 to 8, by plain recursion, to compare with; and random closed pieces.

Here a take grows outwards: each part that it stands in adds its frame, until a round takes them all.
"""

from tests.helpers import about, call, fun, name, num, pick, plus, take

VALUES = ("num", "shut", "kept")


def substitute(piece, x, value):
    match piece:
        case ("name", y):
            return value if y == x else piece
        case ("fun" | "take", at, y, b):
            return piece if y == x else (piece[0], at, y, substitute(b, x, value))
        case ("call" | "plus", at, a, b):
            return (piece[0], at, substitute(a, x, value), substitute(b, x, value))
        case ("pick", at, c, a, b):
            return ("pick", at, *[substitute(part, x, value) for part in (c, a, b)])
        case ("round", b):
            return ("round", substitute(b, x, value))
        case _:
            return piece


def inside(part, frame, rebuild):
    """What becomes of a piece, by what becomes of the part in which its place is."""
    match advance(part):
        case ("step", new):
            return ("step", rebuild(new))
        case ("taking", at, x, b, frames):
            return ("taking", at, x, b, (*frames, frame))
        case answer:
            return answer


def advance(piece):
    """("step", next), ("stuck", at) or ("taking", at, x, b, frames) of a piece that is no value."""
    match piece:
        case ("fun", at, x, b):
            return ("step", ("shut", at, x, b))
        case ("take", at, x, b):
            return ("taking", at, x, b, ())
        case ("round", b):
            return in_round(b)
        case ("call", at, f, a):
            if f[0] not in VALUES:
                return inside(f, ("caller", at, a), lambda new: ("call", at, new, a))
            if a[0] not in VALUES:
                return inside(a, ("given", at, f), lambda new: ("call", at, f, new))
            return apply(at, f, a)
        case ("plus", at, a, b):
            if a[0] not in VALUES:
                return inside(a, ("adder", at, b), lambda new: ("plus", at, new, b))
            if b[0] not in VALUES:
                return inside(b, ("added", at, a), lambda new: ("plus", at, a, new))
            return ("step", num(a[1] + b[1])) if a[0] == b[0] == "num" else ("stuck", at)
        case ("pick", at, c, a, b):
            if c[0] not in VALUES:
                return inside(c, ("picker", at, a, b), lambda new: ("pick", at, new, a, b))
            if c[0] != "num":
                return ("stuck", at)
            return ("step", b if c[1] else a)


def in_round(b):
    if b[0] in VALUES:
        return ("step", b)
    match advance(b):
        case ("step", new):
            return ("step", ("round", new))
        case ("taking", at, x, body, frames):
            return ("step", ("round", substitute(body, x, ("kept", at, frames))))
        case answer:
            return answer


def apply(at, f, a):
    match f:
        case ("num", _):
            return ("stuck", at)
        case ("shut", _, x, b):
            return ("step", substitute(b, x, a))
        case ("kept", _, frames):
            for frame in frames:
                a = plug(frame, a)
            return ("step", ("round", a))


def plug(frame, part):
    match frame:
        case ("caller", at, a):
            return ("call", at, part, a)
        case ("given", at, f):
            return ("call", at, f, part)
        case ("adder", at, b):
            return ("plus", at, part, b)
        case ("added", at, a):
            return ("plus", at, a, part)
        case ("picker", at, a, b):
            return ("pick", at, part, a, b)


def next_of(piece):
    """As stepped tells it."""
    if piece[0] in VALUES:
        return ("value", piece)
    answer = advance(piece)
    return ("stuck", answer[1]) if answer[0] == "taking" else answer


def history(piece, fuel):
    """The running pieces from a piece on, and what it comes to with that fuel."""
    rows = [piece]
    answer = next_of(piece)
    while answer[0] == "step" and len(rows) <= fuel:
        rows.append(answer[1])
        answer = next_of(answer[1])
    match answer:
        case ("step", _):
            return rows, ("dry",)
        case ("value", ("num", n)):
            return rows, ("number", n)
        case ("value", ("shut", at, _, _)):
            return rows, ("function", at)
        case ("value", ("kept", at, _)):
            return rows, ("kept", at)
        case _:
            return rows, answer


class Chance:
    """Random closed pieces that are often, but not always, fit for what is done with them."""

    NAMES = ("x", "y", "z", "k", "abcdefgh")

    def __init__(self, source):
        self.source = source

    def mark(self):
        return self.source.choice((0, 1, 2, 3, 9999, self.source.randrange(10000)))

    def leaf(self, env, want):
        fit = [x for x in env if env[x] == want or self.source.random() < 0.05]
        if fit and self.source.random() < 0.7:
            return name(self.source.choice(fit))
        if want == "num":
            return num(self.source.choice((0, 0, 1, -1, 2, 10 ** 12 - 1, 1 - 10 ** 12)))
        x = self.source.choice(self.NAMES)
        return fun(self.mark(), x, name(x))

    def binder(self, form, env, depth, kind, want):
        x = self.source.choice(self.NAMES)
        return form(self.mark(), x, self.piece({**env, x: kind}, depth - 1, want))

    def piece(self, env, depth, want):
        if depth <= 1 or self.source.random() < 0.1:
            return self.leaf(env, want)
        if self.source.random() < 0.03:
            want = "fun" if want == "num" else "num"
        roll = self.source.randrange(20)
        if want == "fun" and roll < 9:
            return self.binder(fun, env, depth, self.source.choice(("num", "num", "fun")), "num")
        if roll < 5:
            f = self.piece(env, depth - 1, "fun")
            return call(self.mark(), f, self.piece(env, depth - 1, "num"))
        if roll < 8:
            return about(self.piece(env, depth - 1, want))
        if roll < 12:
            return self.binder(take, env, depth, "fun", want)
        if roll < 15:
            c = self.piece(env, depth - 1, "num")
            return pick(self.mark(), c, self.piece(env, depth - 1, want), self.piece(env, depth - 1, want))
        a = self.piece(env, depth - 1, "num")
        return plus(self.mark(), a, self.piece(env, depth - 1, "num"))

    def closed(self):
        piece = self.piece({}, self.source.randrange(2, 8), self.source.choice(("num", "num", "fun")))
        return about(piece) if self.source.random() < 0.6 else piece
