"""What is refused of pieces and fuel by all that takes one of them, or both."""

import unittest

from cutback.errors import BadFuel, BadPiece, PieceError
from cutback.machine import by_machine, moves
from cutback.putting import by_putting, ways
from cutback.running import by_plain, run_plain
from cutback.translating import plain
from tests.helpers import (
    HOLES, TOP, about, call, doubled, fun, in_time, kept, name, nested, num, pick, plus, shut, take, too_large, wide,
    wrong_things,
)

BOTH = (ways, by_putting, moves, by_machine, by_plain)
MOST = 10 ** 6
GOOD_FUEL = (0, 1, 2, 10000, MOST - 1, MOST)
BAD_FUEL = [
    -1, -2, -MOST, MOST + 1, MOST + 2, 10 ** 30, True, False, None, "", "1", b"1", 1.0, 0.0, 2.5, float("inf"),
    float("nan"), 1j, (), (1,), [], [1], {}, {1}, {1: 1}, object(), int, num(1), doubled(num(1), 80),
    nested([], lambda part: [part, part], 80),
]
CALL_OF_X = ("call", 1, name("x"), name("x"), ("halt",), ("end",))
OPEN = [
    name("x"), about(name("x")), fun(1, "x", name("y")), take(1, "x", name("y")), plus(1, num(1), name("x")),
    plus(1, name("x"), num(1)), call(1, fun(1, "x", name("x")), name("x")), pick(1, num(0), num(1), name("a")),
    pick(1, num(1), name("a"), num(1)), call(1, name("f"), num(1)), nested(name("y"), about, 29),
    nested(name("y"), HOLES["fun"], 29), fun(1, "x", plus(1, name("x"), name("xx"))),
]


class Refusals(unittest.TestCase):
    def refused(self, error, function, *things):
        with self.assertRaises(PieceError) as caught:
            function(*things)
        self.assertIs(type(caught.exception), error)
        self.assertIsInstance(caught.exception, ValueError)

    def bad_piece(self, thing, fuel):
        for function in BOTH:
            self.refused(BadPiece, function, thing, fuel)
        self.refused(BadPiece, plain, thing)

    def bad_fuel(self, piece, fuel):
        for function in BOTH:
            self.refused(BadFuel, function, piece, fuel)

    def taken(self, piece, fuel):
        for function in BOTH:
            function(piece, fuel)
        plain(piece)

    def test_wrong_things(self):
        for thing in wrong_things():
            self.bad_piece(thing, 10)

    def test_too_large_things(self):
        with in_time():
            for thing in too_large():
                self.bad_piece(thing, 10)

    def test_pieces_that_are_not_closed(self):
        for piece in OPEN:
            self.bad_piece(piece, 10)

    def test_values(self):
        for thing in (shut(1, "x", name("x")), kept(1), about(kept(1)), call(1, shut(1, "x", num(1)), num(1))):
            self.bad_piece(thing, 10)

    def test_bad_fuel(self):
        with in_time():
            for fuel in BAD_FUEL:
                for piece in (num(1), plus(1, num(1), num(1)), take(1, "k", name("k")), fun(1, "x", name("x"))):
                    self.bad_fuel(piece, fuel)

    def test_good_fuel(self):
        for fuel in GOOD_FUEL:
            self.taken(num(1), fuel)
            self.taken(plus(1, num(1), num(1)), fuel)

    def test_the_fuel_of_a_plain_term(self):
        halted = ("pass", ("halt",), ("num", 1), ("end",))
        endless = ("let", "x", ("code", "kept", 1, "x", "k", "g", CALL_OF_X), CALL_OF_X)
        for term in (halted, ("ask", 1, ("end",), halted), endless, plain(plus(1, num(1), num(1)))):
            with in_time():
                for fuel in BAD_FUEL:
                    self.refused(BadFuel, run_plain, term, fuel)
        for fuel in GOOD_FUEL:
            self.assertEqual(run_plain(halted, fuel), ("number", 1))

    def test_a_bad_piece_is_told_ahead_of_bad_fuel(self):
        with in_time():
            for fuel in BAD_FUEL:
                for thing in (None, 1, True, num(True), ["num", 1], wide(301), doubled(num(1), 80), num(TOP + 1)):
                    self.bad_piece(thing, fuel)
                for piece in OPEN:
                    self.bad_piece(piece, fuel)

    def test_the_limits(self):
        for n in (TOP, -TOP):
            self.taken(num(n), 1)
        for n in (TOP + 1, -TOP - 1):
            self.bad_piece(num(n), 1)
        forms = [
            lambda at: fun(at, "x", num(1)), lambda at: call(at, num(1), num(1)), lambda at: plus(at, num(1), num(1)),
            lambda at: pick(at, num(1), num(1), num(1)), lambda at: take(at, "x", num(1)),
        ]
        for form in forms:
            for at in (0, 9999):
                self.taken(form(at), 1)
            for at in (-1, 10000, True, False):
                self.bad_piece(form(at), 1)
        for x in ("a", "z", "abcdefgh"):
            self.taken(fun(1, x, name(x)), 1)
            self.taken(take(1, x, name(x)), 1)
        for x in ("", "abcdefghi"):
            self.bad_piece(fun(1, x, num(1)), 1)
            self.bad_piece(take(1, x, num(1)), 1)
        self.taken(wide(300), 1)
        self.bad_piece(wide(301), 1)
        self.taken(nested(num(1), about, 29), 1)
        self.bad_piece(nested(num(1), about, 30), 1)


if __name__ == "__main__":
    unittest.main()
