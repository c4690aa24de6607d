"""The machine: a piece is done with the values of names held beside it; nothing is put in.

What is held is (form, names, born): a piece with the values of its names, or a
value, of which a shut has those of the names in its b, and a kept has a row of
frames. Names are (x, what x means, further names), or None; the same name may
stand further in, and the nearest counts.

A state is (held, near, beyond, steps). Near are the frames up to the nearest
round, as (frame, further frames), or None; beyond is (near, beyond) of what is
about that round, or None where there is no round. So a take, or the call of a
kept, goes through no frames, and states share what they have in common.

Born is the number of the step that made a shut or a kept, else 0. By it each is
made out once where a state is unloaded, however often it stands there.
"""

from cutback.checks import check_both
from cutback.pieces import BINDERS, FORMS
from cutback.putting import VALUES, outcome, surrounded


def moves(piece, fuel):
    """The states of a closed piece, by so many steps at most."""
    check_both(piece, fuel)
    states = [first(piece)]
    state = moved(states[0])
    while state is not None and state[3] <= fuel:
        states.append(state)
        state = moved(state)
    return states


def by_machine(piece, fuel):
    """What a closed piece comes to, with fuel."""
    check_both(piece, fuel)
    state = first(piece)
    following = moved(state)
    while following is not None:
        if following[3] > fuel:
            return ("dry",)
        state = following
        following = moved(state)
    return told(state)


def unloaded(state):
    """The running piece for which a state stands."""
    held, near, beyond, _ = state
    made = made_out(state)
    frames = running_frames(near, made)
    while beyond is not None:
        near, beyond = beyond
        frames.append(("round",))
        frames.extend(running_frames(near, made))
    # Frames that are put about a piece have the nearest last.
    return surrounded(running(held, made), frames[::-1])


def first(piece):
    """The first state of a piece."""
    return (holding(piece, None), None, None, 0)


def holding(piece, names):
    """What is held of a piece; of a name it is what the name means."""
    if piece[0] == "name":
        return meaning(piece[1], names)
    if piece[0] == "num":
        return number(piece[1])
    return (piece, names, 0)


def number(n):
    """What is held of a number."""
    return (("num", n), None, 0)


def meaning(x, names):
    """What a name means among names."""
    while names[0] != x:
        names = names[2]
    return names[1]


def told(state):
    """What is told of the last state of a piece, be it a value or stuck."""
    held, near, _, _ = state
    if is_value(held) and near is not None:
        return ("stuck", near[0][1])
    return outcome(held[0])


def is_value(held):
    """Whether what is held is a value."""
    return held[0][0] in VALUES


def is_number(held):
    """Whether what is held is a number."""
    return held[0][0] == "num"


def moved(state):
    """The state behind a state; None where a value, or a stuck place, is come to."""
    held, near, beyond, steps = state
    if not is_value(held):
        return entered(state)
    if near is not None:
        return returned(state)
    if beyond is not None:
        return (held, *beyond, steps + 1)
    return None


def entered(state):
    """The state behind one that holds a piece."""
    (piece, names, _), near, beyond, steps = state
    match piece:
        case ("fun", at, x, b):
            return ((("shut", at, x, b), names, steps + 1), near, beyond, steps + 1)
        case ("call", at, f, a):
            return (holding(f, names), (("caller", at, holding(a, names)), near), beyond, steps)
        case ("plus", at, a, b):
            return (holding(a, names), (("adder", at, holding(b, names)), near), beyond, steps)
        case ("pick", at, c, a, b):
            frame = ("picker", at, holding(a, names), holding(b, names))
            return (holding(c, names), (frame, near), beyond, steps)
        case ("round", b):
            return (holding(b, names), None, (near, beyond), steps)
        case _:
            return taken(state)


def taken(state):
    """The state behind one that holds a take; it stays within the round."""
    (piece, names, _), near, beyond, steps = state
    if beyond is None:
        return None
    _, at, x, b = piece
    kept = (("kept", at, near), None, steps + 1)
    return (holding(b, (x, kept, names)), None, beyond, steps + 1)


def returned(state):
    """The state behind one that holds a value, by the nearest frame about it."""
    value, (frame, near), beyond, steps = state
    match frame:
        case ("caller", at, a):
            return (a, (("given", at, value), near), beyond, steps)
        case ("given", _, f):
            return called(f, value, (near, beyond), steps)
        case ("adder", at, b):
            return (b, (("added", at, value), near), beyond, steps)
        case ("added", _, a):
            if not is_number(a) or not is_number(value):
                return None
            return (number(a[0][1] + value[0][1]), near, beyond, steps + 1)
        case ("picker", _, a, b):
            if not is_number(value):
                return None
            return (a if value[0][1] == 0 else b, near, beyond, steps + 1)


def called(f, value, about, steps):
    """The state that a call of f with a value comes to, about being near and beyond."""
    form, names, _ = f
    match form:
        case ("shut", _, x, b):
            return (holding(b, (x, value, names)), *about, steps + 1)
        case ("kept", _, near):
            return (value, near, about, steps + 1)
        case _:
            return None


def row_of(near):
    """The frames of near, as a list, the nearest first."""
    rows = []
    while near is not None:
        frame, near = near
        rows.append(frame)
    return rows


def made_out(state):
    """The shuts and kepts of a state as the values that steps make, by their born."""
    found = values_within(state)
    made = {}
    # Whatever stands within a value was born ahead of it.
    for born in sorted(found):
        made[born] = value_of(found[born], made)
    return made


def values_within(state):
    """The shuts and kepts that stand anywhere in a state, by their born."""
    held, near, beyond, _ = state
    waiting = held_in(near)
    waiting.append(held)
    while beyond is not None:
        near, beyond = beyond
        waiting.extend(held_in(near))
    found = {}
    while waiting:
        held = waiting.pop()
        form, names, born = held
        if born not in found:
            waiting.extend(held_by(names))
            if born != 0:
                found[born] = held
            if form[0] == "kept":
                waiting.extend(held_in(form[2]))
    return found


def held_in(near):
    """All that is held in frames."""
    return [held for frame in row_of(near) for held in frame[2:]]


def held_by(names):
    """All that is held by names."""
    rows = []
    while names is not None:
        _, held, names = names
        rows.append(held)
    return rows


def value_of(held, made):
    """A shut or a kept as a step makes it, of those born ahead of it."""
    form, names, _ = held
    match form:
        case ("shut", at, x, b):
            return ("shut", at, x, standing(b, left_free(x, names), made))
        case ("kept", at, near):
            return ("kept", at, tuple(running_frames(near, made)))


def running(held, made):
    """What is held as the running piece that it stands for."""
    form, names, born = held
    if born != 0:
        return made[born]
    return standing(form, names, made)


def running_frames(near, made):
    """The frames of near as frames about a running piece, as a list, the nearest first."""
    rows = []
    for frame in row_of(near):
        parts = [running(held, made) for held in frame[2:]]
        rows.append((frame[0], frame[1], *parts))
    return rows


def left_free(x, names):
    """Names by which a name that is bound further in stays itself."""
    return (x, (("name", x), None, 0), names)


def standing(piece, names, made):
    """The running piece that a piece is with the values of its names in their places."""
    if names is None:
        return piece
    word = piece[0]
    if word == "name":
        return running(meaning(piece[1], names), made)
    if word in BINDERS:
        names = left_free(piece[2], names)
    parts = [word]
    for part, kind in zip(piece[1:], FORMS[word]):
        parts.append(standing(part, names, made) if kind == "piece" else part)
    return tuple(parts)
