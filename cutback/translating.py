"""Pieces as plain terms, in which nothing is done ahead of anything.

What is still to be done is named by a let where the piece stands, so that each
name of a piece in it means what it means there, whatever a fun or take further
in binds. The names that are made up end in a number, which no name of a piece
does: that of the level at which they are bound, so that none is bound again
further in.
"""

from cutback.checks import check_piece

HALT = ("halt",)
END = ("end",)
# What is to be done with the value of a round's b: the round is left with it.
LEAVER = ("then", "v0", "g0", ("leave", ("name", "g0"), ("name", "v0")))


def plain(piece):
    """The plain term of a closed piece."""
    check_piece(piece)
    return term_of(piece, HALT, END, 1)


def term_of(piece, k, g, level):
    """The plain term that gives what a piece comes to, and g, to k.

    k and g may stand in several places, and within what binds names of the
    piece: k is a name that is made up, halt or LEAVER, and g is one or end.
    """
    match piece:
        case ("fun", at, x, b):
            return ("shut", function_of(at, x, b, level), k, g)
        case ("call" | "plus", _, _, _):
            return in_turn(piece, k, g, level)
        case ("pick", _, _, _, _):
            return picking(piece, k, g, level)
        case ("round", b):
            beyond = f"g{level}"
            return ("let", beyond, behind_round(k, g, level), term_of(b, LEAVER, ("name", beyond), level + 1))
        case ("take", at, x, b):
            body = term_of(b, LEAVER, g, level + 1)
            return ("ask", at, g, ("let", x, kept_of(at, k, level), body))
        case _:
            return ("pass", k, piece, g)


def function_of(at, x, b, level):
    """The code of a function."""
    k = f"k{level}"
    g = f"g{level}"
    return ("code", "function", at, x, k, g, term_of(b, ("name", k), ("name", g), level + 1))


def kept_of(at, k, level):
    """The code of a kept: it goes on with k, in a round about it."""
    value = f"v{level}"
    outer = f"k{level}"
    beyond = f"g{level}"
    inner = behind_round(("name", outer), ("name", beyond), level)
    return ("code", "kept", at, value, outer, beyond, ("pass", k, ("name", value), inner))


def behind_round(k, g, level):
    """What is to be done with the value of a round, behind which k and g are."""
    value = f"r{level}"
    return ("last", value, ("pass", k, ("name", value), g))


def in_turn(piece, k, g, level):
    """The plain term of a call or a plus: one part, then the other one, then both together."""
    word, at, a, b = piece
    left = f"a{level}"
    right = f"b{level}"
    behind_left = f"k{level}"
    behind_right = f"l{level}"
    # Each then is given g anew: what is done ahead of it may have gone on with a kept.
    left_g = f"g{level}"
    right_g = f"h{level}"
    both = (word, at, ("name", left), ("name", right), k, ("name", right_g))
    other = term_of(b, ("name", behind_right), ("name", left_g), level + 1)
    rest = ("let", behind_right, ("then", right, right_g, both), other)
    one = term_of(a, ("name", behind_left), g, level + 1)
    return ("let", behind_left, ("then", left, left_g, rest), one)


def picking(piece, k, g, level):
    """The plain term of a pick."""
    _, at, c, a, b = piece
    value = f"c{level}"
    behind = f"k{level}"
    inner_g = f"g{level}"
    one = term_of(a, k, ("name", inner_g), level + 1)
    other = term_of(b, k, ("name", inner_g), level + 1)
    choice = ("pick", at, ("name", value), one, other)
    return ("let", behind, ("then", value, inner_g, choice), term_of(c, ("name", behind), g, level + 1))
