"""plain, without its refusals; what its terms come to is in test_three_ways."""

import copy
import random
import unittest

from cutback.pieces import is_closed
from cutback.running import run_plain
from cutback.translating import plain
from tests.comparing import ABOUT, ROWS, no_deep_recursion
from tests.helpers import HOLES, ONES, about, call, fun, in_time, name, nested, num, pick, take, wide
from tests.oracle import Chance
from tests.runs import ENDLESS, RUNS, counted
from tests.terms import faults

K = name("k")
X = name("x")


class Plain(unittest.TestCase):
    def is_plain(self, piece):
        term = plain(piece)
        self.assertEqual(faults(term), [], piece)
        return term

    def test_each_form(self):
        for part in ONES.values():
            piece = part
            for x in ("x", "y", "f", "a"):
                piece = fun(1, x, piece)
            self.is_plain(piece)
            if is_closed(part):
                self.is_plain(part)

    def test_each_run(self):
        for piece, _, _ in RUNS.values():
            self.is_plain(piece)

    def test_each_row_in_each_frame(self):
        for row in ROWS.values():
            self.is_plain(row)
            for frame in ABOUT.values():
                self.is_plain(frame(row))
                for outer in ABOUT.values():
                    self.is_plain(outer(frame(row)))

    def test_random_ones(self):
        chance = Chance(random.Random(20261120))
        for _ in range(3000):
            piece = chance.closed()
            if is_closed(piece):
                self.is_plain(piece)

    def test_the_largest_pieces(self):
        with in_time(), no_deep_recursion():
            self.is_plain(wide(300))
            for hole in HOLES.values():
                for leaf in (num(1), fun(2, "x", X), take(3, "k", K), call(4, num(1), num(1))):
                    self.is_plain(nested(leaf, hole, 28))
            three = nested(num(1), lambda part: pick(1, part, num(2), pick(3, num(4), num(5), num(6))), 14)
            self.is_plain(nested(three, lambda part: pick(1, num(0), part, part), 1))
            self.is_plain(nested(num(1), lambda part: pick(1, num(0), num(1), part), 29))
            self.is_plain(nested(about(take(1, "k", K)), lambda part: about(pick(1, num(0), num(1), part)), 13))

    def test_names_of_all_kinds(self):
        for x in ("a", "z", "k", "g", "v", "w", "let", "halt", "end", "function", "kept", "abcdefgh"):
            for piece in (fun(1, x, name(x)), about(take(1, x, name(x))), call(1, fun(2, x, about(take(3, x, call(
                    4, name(x), name(x))))), num(1))):
                self.is_plain(piece)

    def test_the_same_piece_twice(self):
        for piece, _, _ in RUNS.values():
            self.assertEqual(plain(piece), plain(copy.deepcopy(piece)))

    def test_another_piece_in_between(self):
        for piece, due, steps in RUNS.values():
            term = plain(piece)
            spare = copy.deepcopy(term)
            for other in (ENDLESS, counted(3), about(take(1, "k", K)), fun(1, "x", X)):
                plain(other)
                run_plain(plain(other), 5)
            self.assertEqual(term, spare)
            self.assertEqual(plain(piece), spare)
            self.assertEqual(run_plain(term, steps), due)

    def test_what_is_handed_in_stays(self):
        for piece, _, _ in RUNS.values():
            before = copy.deepcopy(piece)
            plain(piece)
            self.assertEqual(piece, before)


class TheChecker(unittest.TestCase):
    """That what the tests above ask would find what is wrong."""

    def test_what_is_no_plain_term(self):
        done = ("pass", ("halt",), ("num", 1), ("end",))
        self.assertEqual(faults(done), [])
        wrong = [
            num(1), ("halt",), ("pass", ("halt",), ("num", 1)), ("pass", ("halt",), done, ("end",)),
            ("pass", ("halt",), ("name", "x"), ("end",)), ("let", "x", ("name", "x"), done),
            ("let", "x", ("num", 1), ("num", 1)), ("step", done), ("ask", -1, ("end",), done),
            ("pass", ("halt",), ("num", True), ("end",)), list(done), (),
            ("shut", ("code", "number", 1, "w", "k", "g", done), ("halt",), ("end",)),
            ("pass", ("then", "w", "g", ("pass", ("halt",), ("name", "k"), ("end",))), ("num", 1), ("end",)),
            ("plus", 1, ("num", 1), ("num", 2), ("halt",)), ("leave", ("last", 1, done), ("num", 1)),
        ]
        for term in wrong:
            self.assertNotEqual(faults(term), [], term)


if __name__ == "__main__":
    unittest.main()
