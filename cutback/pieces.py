"""Pieces: what is one, and which names are free in it."""

NUMBER_END = 10 ** 12
LAST_MARK = 9999
LONGEST_NAME = 8
MOST_KNOTS = 300
DEEPEST = 30

# What stands behind the word of each form, in this order.
FORMS = {
    "num": ("number",),
    "name": ("name",),
    "fun": ("mark", "name", "piece"),
    "call": ("mark", "piece", "piece"),
    "plus": ("mark", "piece", "piece"),
    "pick": ("mark", "piece", "piece", "piece"),
    "round": ("piece",),
    "take": ("mark", "name", "piece"),
}
BINDERS = ("fun", "take")


def is_piece(thing):
    """Whether a thing is a piece."""
    waiting = [(thing, 1)]
    knots = 0
    # One part may stand in so many places that it would take forever to
    # reach them all, so the counting stops at the first knot too many.
    while waiting:
        part, depth = waiting.pop()
        knots += 1
        if knots > MOST_KNOTS or depth > DEEPEST or not is_knot(part):
            return False
        for inner in parts_of(part):
            waiting.append((inner, depth + 1))
    return True


def is_closed(thing):
    """Whether a thing is a closed piece."""
    return is_piece(thing) and not free_names(thing)


def free_names(piece):
    """The free names of a piece, each once, in the order of letters."""
    names = set()
    waiting = [(piece, ())]
    while waiting:
        part, bound = waiting.pop()
        if part[0] == "name" and part[1] not in bound:
            names.add(part[1])
        if part[0] in BINDERS:
            bound = (*bound, part[2])
        for inner in parts_of(part):
            waiting.append((inner, bound))
    return sorted(names)


def parts_of(piece):
    """The pieces that stand directly in a piece."""
    return [part for part, kind in zip(piece[1:], FORMS[piece[0]]) if kind == "piece"]


def is_knot(thing):
    """Whether a thing has the form of a piece, whatever stands for the pieces in it."""
    if not isinstance(thing, tuple) or not thing:
        return False
    word = thing[0]
    # Only a string is looked up: to hash another thing may take forever.
    if not isinstance(word, str) or word not in FORMS:
        return False
    kinds = FORMS[word]
    if len(thing) != len(kinds) + 1:
        return False
    return all(fits(part, kind) for part, kind in zip(thing[1:], kinds))


def fits(thing, kind):
    """Whether a thing may stand where a part of that kind is due; pieces are not looked into."""
    if kind == "number":
        return is_whole(thing) and -NUMBER_END < thing < NUMBER_END
    if kind == "mark":
        return is_whole(thing) and 0 <= thing <= LAST_MARK
    if kind == "name":
        return is_name(thing)
    return True


def is_whole(thing):
    """Whether a thing is a whole number, which True and False are not."""
    return isinstance(thing, int) and not isinstance(thing, bool)


def is_name(thing):
    """Whether a thing is a name."""
    if not isinstance(thing, str) or not 1 <= len(thing) <= LONGEST_NAME:
        return False
    return all("a" <= sign <= "z" for sign in thing)
