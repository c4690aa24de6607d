"""Plain terms: short names for them, what is one, a second way to run them, and random ones.

The second way puts what a simple term means in for its name; nothing that is
put in has free names, so no name is ever caught.
"""

from tests.helpers import name, num

HALT = ("halt",)
END = ("end",)


def code(word, at, w, k, g, t):
    return ("code", word, at, w, k, g, t)


def then(w, g, t):
    return ("then", w, g, t)


def last(w, t):
    return ("last", w, t)


def give(p, k=HALT, g=END):
    return ("pass", k, p, g)


def leave(g, p):
    return ("leave", g, p)


def shut_in(p, k=HALT, g=END):
    return ("shut", p, k, g)


def call_on(at, p, q, k=HALT, g=END):
    return ("call", at, p, q, k, g)


def sum_of(at, p, q, k=HALT, g=END):
    return ("plus", at, p, q, k, g)


def choice(at, p, t, u):
    return ("pick", at, p, t, u)


def ask(at, g, t):
    return ("ask", at, g, t)


def let(w, p, t):
    return ("let", w, p, t)


# What stands behind each word: numbers, marks, words of codes, names that are
# bound in the t behind them, and simple and plain terms.
SIMPLE = {
    "num": ["number"], "name": ["name"], "code": ["word", "mark", "bound", "bound", "bound", "term"],
    "then": ["bound", "bound", "term"], "last": ["bound", "term"], "halt": [], "end": [],
}
PLAIN = {
    "pass": ["simple", "simple", "simple"], "leave": ["simple", "simple"], "shut": ["simple", "simple", "simple"],
    "call": ["mark", "simple", "simple", "simple", "simple"], "plus": ["mark", "simple", "simple", "simple", "simple"],
    "pick": ["mark", "simple", "term", "term"], "ask": ["mark", "simple", "term"], "let": ["bound", "simple", "term"],
}


def is_right(kind, part):
    if kind in ("number", "mark"):
        return type(part) is int and (kind == "number" or 0 <= part <= 9999)
    if kind == "word":
        return part in ("function", "kept")
    return type(part) is str


def faults(term):
    """What is wrong with a plain term without free names: nothing, if it is one."""
    rows = []
    waiting = [(term, PLAIN, ())]
    while waiting:
        part, forms, env = waiting.pop()
        if type(part) is not tuple or not part or part[0] not in forms or len(part) != len(forms[part[0]]) + 1:
            rows.append(part)
            continue
        bound = []
        for inner, kind in zip(part[1:], forms[part[0]]):
            if kind == "simple":
                waiting.append((inner, SIMPLE, env))
            elif kind == "term":
                waiting.append((inner, PLAIN, (*env, *bound)))
            elif not is_right(kind, inner):
                rows.append(part)
            elif kind == "bound":
                bound.append(inner)
        if part[0] == "name" and part[1] not in env:
            rows.append(part)
        if part[0] == "code" and len(set(bound)) < 3 or part[0] == "then" and len(set(bound)) < 2:
            rows.append(part)
    return rows


class Closed(tuple):
    """What was put in for a name. It has no free names, so nothing is looked for in it.

    It may stand in so many places that nobody could go through all of them.
    """


def put(term, x, value):
    """A term, plain or simple, with a value in the places of a name."""
    if type(term) is Closed:
        return term
    if term[0] == "name":
        return Closed(value) if term[1] == x else term
    kinds = (SIMPLE if term[0] in SIMPLE else PLAIN)[term[0]]
    parts = [term[0]]
    bound = []
    for part, kind in zip(term[1:], kinds):
        if kind == "bound":
            bound.append(part)
        if kind == "simple" or kind == "term" and x not in bound:
            part = put(part, x, value)
        parts.append(part)
    return tuple(parts)


class Unsaid(Exception):
    """The document doesn't say what comes of this."""


def due_of(term, fuel):
    """What a plain term without free names tells, with fuel."""
    made = 0
    while True:
        answer = onward(term)
        if answer[0] in ("stuck", "number", "function", "kept"):
            return answer
        if term[0] not in ("let", "pass"):
            if made == fuel:
                return ("dry",)
            made += 1
        term = answer


def onward(term):
    """What a plain term becomes, or what it tells."""
    match term:
        case ("let", w, p, t):
            return put(t, w, p)
        case ("pass", ("halt",), ("num", n), _):
            return ("number", n)
        case ("pass", ("halt",), ("code", word, at, *_), _):
            return (word, at)
        case ("pass", ("then", w, x, t), p, g):
            return put(put(t, w, p), x, g)
        case ("leave", ("last", w, t), p):
            return put(t, w, p)
        case ("shut", p, k, g):
            return give(p, k, g)
        case ("call", _, ("code", _, _, w, x, y, t), q, k, g):
            return put(put(put(t, w, q), x, k), y, g)
        case ("plus", _, ("num", n), ("num", m), k, g):
            return give(num(n + m), k, g)
        case ("pick", _, ("num", n), t, u):
            return u if n else t
        case ("ask", _, g, t) if g != END:
            return t
        case ("call" | "plus" | "pick" | "ask", at, *_):
            return ("stuck", at)
        case _:
            raise Unsaid(term[0])


class ChanceOfTerms:
    """Random plain terms without free names; of the names it is known what they are: value, then or last.

    As a value is never a then, nothing goes on for ever by passes alone.
    """

    NAMES = ("x", "y", "k", "g")

    def __init__(self, source):
        self.source = source

    def mark(self):
        return self.source.choice((0, 1, 2, 9999, self.source.randrange(10000)))

    def bound(self, env, *kinds):
        """Names for these kinds, and what is known with them."""
        names = self.source.sample(self.NAMES, len(kinds))
        return names, {**env, **dict(zip(names, kinds))}

    def named(self, env, kind, often):
        fit = [x for x in env if env[x] == kind]
        return name(self.source.choice(fit)) if fit and self.source.random() < often else None

    def value(self, env, depth):
        found = self.named(env, "value", 0.6)
        if found or depth < 1 or self.source.random() < 0.4:
            return found or num(self.source.choice((0, 0, 1, -1, 5, 10 ** 13)))
        (w, k, g), inner = self.bound(env, "value", "then", "last")
        return code(self.source.choice(("function", "kept")), self.mark(), w, k, g, self.term(inner, depth - 1))

    def then(self, env, depth):
        found = self.named(env, "then", 0.6)
        if found or depth < 1:
            return found or HALT
        (w, g), inner = self.bound(env, "value", "last")
        return then(w, g, self.term(inner, depth - 1))

    def last(self, env, depth, sure=False):
        found = self.named(env, "last", 0.6)
        if found or not sure and (depth < 1 or self.source.random() < 0.1):
            return found or END
        (w,), inner = self.bound(env, "value")
        return last(w, self.term(inner, depth - 1))

    def kg(self, env, depth):
        return self.then(env, depth), self.last(env, depth)

    def term(self, env, depth):
        roll = self.source.randrange(20) if depth > 0 else 0
        less = depth - 1
        if roll < 2:
            return give(self.value(env, less), *self.kg(env, less))
        if roll < 4:
            return leave(self.last(env, less, True), self.value(env, less))
        if roll < 6:
            return shut_in(self.value(env, less), *self.kg(env, less))
        if roll < 10:
            return call_on(self.mark(), self.value(env, less), self.value(env, less), *self.kg(env, less))
        if roll < 12:
            return sum_of(self.mark(), self.value(env, less), self.value(env, less), *self.kg(env, less))
        if roll < 14:
            return choice(self.mark(), self.value(env, less), self.term(env, less), self.term(env, less))
        if roll < 15:
            return ask(self.mark(), self.last(env, less), self.term(env, less))
        kind = self.source.choice(("value", "then", "last"))
        (w,), inner = self.bound(env, kind)
        make = {"value": self.value, "then": self.then, "last": self.last}[kind]
        return let(w, make(env, less), self.term(inner, less))

    def closed(self):
        return self.term({}, self.source.randrange(1, 10))
