"""Plain terms, run by going on from term to term.

What a simple term means is (form, names): a code, a then or a last with the
names that were there where it stands; halt, end and numbers have none. Names
are held as in the machine. What is to be done next is a term and its names,
and nothing else, so nothing grows but what thens and lasts hold.
"""

from cutback.checks import check_fuel
from cutback.machine import meaning
from cutback.translating import plain

STEPS = ("shut", "call", "plus", "pick", "ask", "leave")
BARE = ("num", "halt", "end")
# By this, what a step has come to is given to k.
GIVING = ("pass", ("name", "k"), ("name", "p"), ("name", "g"))


def run_plain(term, fuel):
    """What a plain term without free names tells, with fuel."""
    check_fuel(fuel)
    names = None
    made = 0
    following = followed(term, names)
    while following is not None:
        if term[0] in STEPS:
            if made == fuel:
                return ("dry",)
            made += 1
        term, names = following
        following = followed(term, names)
    return told(term, names)


def by_plain(piece, fuel):
    """What a closed piece comes to, with fuel, by its plain term."""
    return run_plain(plain(piece), fuel)


def told(term, names):
    """What is told of a term behind which there is none: of a pass to halt, or of what is stuck."""
    if term[0] != "pass":
        return ("stuck", term[1])
    form, _ = meant(term[2], names)
    if form[0] == "num":
        return ("number", form[1])
    return (form[1], form[2])


def meant(simple, names):
    """What a simple term means where it stands."""
    if simple[0] == "name":
        return meaning(simple[1], names)
    return (simple, None if simple[0] in BARE else names)


def is_number(value):
    """Whether what is meant is a number."""
    return value[0][0] == "num"


def followed(term, names):
    """The term behind a term, and its names; None where it is told or stuck."""
    match term:
        case ("let", w, p, t):
            return t, (w, meant(p, names), names)
        case ("pass", k, p, g):
            return passed(meant(k, names), meant(p, names), meant(g, names))
        case ("leave", g, p):
            return left(meant(g, names), meant(p, names))
        case ("shut", p, k, g):
            return given(meant(k, names), meant(p, names), meant(g, names))
        case ("call", _, p, q, k, g):
            return called(meant(p, names), meant(q, names), meant(k, names), meant(g, names))
        case ("plus", _, p, q, k, g):
            return added(meant(p, names), meant(q, names), meant(k, names), meant(g, names))
        case ("pick", _, p, _, _):
            return picked(term, meant(p, names), names)
        case (_, _, g, t):
            form, _ = meant(g, names)
            return None if form[0] == "end" else (t, names)


def passed(k, p, g):
    """What a pass of p and g to k comes to; None where k is halt."""
    form, names = k
    if form[0] == "halt":
        return None
    _, w, x, t = form
    return t, (x, g, (w, p, names))


def left(g, p):
    """What comes of a p that goes to the last g."""
    (_, w, t), names = g
    return t, (w, p, names)


def given(k, p, g):
    """The pass by which a step gives p and g to k."""
    return GIVING, ("k", k, ("p", p, ("g", g, None)))


def called(p, q, k, g):
    """What comes of a call of p with q; None where p is no code."""
    form, names = p
    if form[0] != "code":
        return None
    _, _, _, w, x, y, t = form
    return t, (y, g, (x, k, (w, q, names)))


def added(p, q, k, g):
    """What comes of the sum of p and q; None where they are not both numbers."""
    if not is_number(p) or not is_number(q):
        return None
    return given(k, (("num", p[0][1] + q[0][1]), None), g)


def picked(term, p, names):
    """One of the two terms of a pick, by p; None where p is no number."""
    if not is_number(p):
        return None
    _, _, _, one, other = term
    return (one if p[0][1] == 0 else other), names
