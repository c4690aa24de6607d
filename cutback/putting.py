"""Running pieces, done step by step by putting values in for names.

A running piece may lie too deep to be gone through by recursion. So it is
held as the place and a list of the frames about it, the nearest last, which
grows and shrinks at its end.
"""

from cutback.checks import check_both
from cutback.pieces import BINDERS, FORMS

VALUES = ("num", "shut", "kept")


def put_in(piece, name, value):
    """A running piece with the value at each place where the name is free."""
    word = piece[0]
    if word == "name":
        return value if piece[1] == name else piece
    if word in VALUES or (word in BINDERS and piece[2] == name):
        return piece
    parts = [word]
    for part, kind in zip(piece[1:], FORMS[word]):
        parts.append(put_in(part, name, value) if kind == "piece" else part)
    return tuple(parts)


def stepped(piece):
    """What one step makes of a running piece without free names."""
    frames = []
    place = found(piece, frames)
    if is_value(place):
        return ("value", place)
    if is_stuck(place, frames):
        return ("stuck", place[1])
    place = changed(place, frames)
    return ("step", surrounded(place, frames))


def ways(piece, fuel):
    """The running pieces from a closed piece on, by so many steps at most."""
    check_both(piece, fuel)
    rows = [piece]
    frames = []
    place = found(piece, frames)
    while len(rows) <= fuel and not is_done(place, frames):
        place = changed(place, frames)
        rows.append(surrounded(place, frames))
        place = found(place, frames)
    return rows


def by_putting(piece, fuel):
    """What a closed piece comes to, with fuel."""
    check_both(piece, fuel)
    frames = []
    place = found(piece, frames)
    made = 0
    while not is_done(place, frames):
        if made == fuel:
            return ("dry",)
        place = changed(place, frames)
        place = found(place, frames)
        made += 1
    return outcome(place)


def outcome(place):
    """What is told of a value or of a stuck place."""
    match place:
        case ("num", n):
            return ("number", n)
        case ("shut", at, _, _):
            return ("function", at)
        case ("kept", at, _):
            return ("kept", at)
        case _:
            return ("stuck", place[1])


def is_value(piece):
    """Whether a running piece is a value."""
    return piece[0] in VALUES


def is_done(place, frames):
    """Whether there is no step at a place, be it that it is a value or that it is stuck."""
    return is_value(place) or is_stuck(place, frames)


def is_stuck(place, frames):
    """Whether a place that is no value has no step."""
    match place:
        case ("call", _, f, _):
            return f[0] == "num"
        case ("plus", _, a, b):
            return a[0] != "num" or b[0] != "num"
        case ("pick", _, c, _, _):
            return c[0] != "num"
        case ("take", _, _, _):
            return not any(frame[0] == "round" for frame in reversed(frames))
        case _:
            return False


def found(piece, frames):
    """The place of what stands in the frames, which become those about the place.

    It is a value only where the frames are used up: then the whole is that value.
    """
    while True:
        if is_value(piece):
            if not frames:
                return piece
            piece = filled(frames.pop(), piece)
        further = entered(piece)
        if further is None:
            return piece
        piece, frame = further
        frames.append(frame)


def entered(piece):
    """The part of a running piece in which its place is, and the frame about that part.

    None, where the running piece itself is the place.
    """
    match piece:
        case ("call", at, f, a) if f[0] not in VALUES:
            return f, ("caller", at, a)
        case ("call", at, f, a) if a[0] not in VALUES:
            return a, ("given", at, f)
        case ("plus", at, a, b) if a[0] not in VALUES:
            return a, ("adder", at, b)
        case ("plus", at, a, b) if b[0] not in VALUES:
            return b, ("added", at, a)
        case ("pick", at, c, a, b) if c[0] not in VALUES:
            return c, ("picker", at, a, b)
        case ("round", b) if b[0] not in VALUES:
            return b, ("round",)
        case _:
            return None


def filled(frame, part):
    """The running piece that a frame is about its part."""
    match frame:
        case ("caller", at, a):
            return ("call", at, part, a)
        case ("given", at, f):
            return ("call", at, f, part)
        case ("adder", at, b):
            return ("plus", at, part, b)
        case ("added", at, a):
            return ("plus", at, a, part)
        case ("picker", at, a, b):
            return ("pick", at, part, a, b)
        case _:
            return ("round", part)


def surrounded(piece, frames):
    """The running piece that the frames are about a piece."""
    for frame in reversed(frames):
        piece = filled(frame, piece)
    return piece


def changed(place, frames):
    """What a step makes of a place that is not stuck; the frames become those about it."""
    match place:
        case ("fun", at, x, b):
            return ("shut", at, x, b)
        case ("call", _, f, a):
            return called(f, a, frames)
        case ("plus", _, a, b):
            return ("num", a[1] + b[1])
        case ("pick", _, c, a, b):
            return a if c[1] == 0 else b
        case ("round", b):
            return b
        case _:
            return taken(place, frames)


def called(f, a, frames):
    """What a call of a shut or a kept becomes; of a kept, its frames come about it."""
    if f[0] == "shut":
        return put_in(f[3], f[2], a)
    frames.append(("round",))
    # A kept value has the nearest frame first.
    frames.extend(f[2][::-1])
    return a


def taken(place, frames):
    """What a take becomes; the frames nearer than the nearest round go into what is kept."""
    _, at, x, b = place
    held = []
    while frames[-1][0] != "round":
        held.append(frames.pop())
    return put_in(b, x, ("kept", at, tuple(held)))
