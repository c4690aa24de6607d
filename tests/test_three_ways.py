"""That putting in, the machine and the plain term come to the same, with the same fuel."""

import collections
import random
import unittest

from cutback.machine import by_machine
from cutback.pieces import is_closed, is_piece
from cutback.putting import by_putting
from cutback.running import by_plain, run_plain
from cutback.translating import plain
from tests.comparing import ABOUT, ROWS, THREE, compare, compare_states, no_deep_recursion
from tests.helpers import HOLES, TOP, about, call, fun, in_time, name, nested, num, pick, plus, take, wide
from tests.oracle import Chance, history
from tests.runs import ENDLESS, K, N, RUNS, S, X, counted

MOST = 10 ** 6


def just_enough(steps):
    return [fuel for fuel in (0, steps - 1, steps, steps + 1, MOST) if fuel >= 0]


class TheSame(unittest.TestCase):
    def test_each_run(self):
        for word, (piece, due, steps) in RUNS.items():
            with self.subTest(word):
                self.assertTrue(is_closed(piece))
                self.assertEqual(by_plain(piece, steps), due)
                compare(self, piece)

    def test_each_run_in_each_frame(self):
        for piece, _, _ in RUNS.values():
            for frame in ABOUT.values():
                compare(self, frame(piece), just_enough)
                compare(self, about(frame(piece)), just_enough)

    def test_each_row_in_each_frame(self):
        for row in ROWS.values():
            compare(self, row)
            compare(self, about(row))
            for frame in ABOUT.values():
                compare(self, frame(row))
                compare(self, about(frame(row)))

    def test_each_row_in_two_frames(self):
        for row in ROWS.values():
            for frame in ABOUT.values():
                for outer in ABOUT.values():
                    compare(self, outer(frame(row)), just_enough)
                    compare(self, about(outer(frame(row))), just_enough)

    def test_the_frames_of_a_take_and_what_is_beyond(self):
        for row in ("a take, called twice", "a take, in a sum", "a take, told", "a take"):
            for frame in ABOUT.values():
                for outer in ABOUT.values():
                    compare(self, outer(about(frame(ROWS[row]))), just_enough)
                    compare(self, about(outer(about(frame(ROWS[row])))), just_enough)

    def test_a_kept_that_is_called_behind_its_round(self):
        for frame in ABOUT.values():
            held = about(frame(take(30, "k", K)))
            for user in (num(1), fun(31, "x", X), about(take(32, "k", K))):
                compare(self, call(33, held, user), just_enough)
                twice = fun(34, "k", plus(35, call(36, K, num(1)), call(37, K, num(0))))
                compare(self, call(38, twice, held), just_enough)
                compare(self, about(plus(39, call(38, fun(34, "k", call(35, K, call(36, K, user))), held), num(9))),
                        just_enough)

    def test_names_that_are_bound_again(self):
        # Everywhere the same name, bound by the part in front and used in the part behind, and the other way round;
        # whatever a plain term may call what it hands on, a piece may have the same name.
        for x in [*"abcdefghijklmnopqrstuvwxyz", "abcdefgh", "then", "halt", "end", "value"]:
            meant = name(x)
            binders = [
                call(1, fun(2, x, plus(3, meant, num(1))), num(10)), call(1, fun(2, x, meant), fun(3, x, meant)),
                take(4, x, call(5, meant, num(10))), take(4, x, call(5, meant, call(6, meant, num(10)))),
                about(take(4, x, meant)), take(4, x, take(5, x, call(6, meant, num(10)))), fun(7, x, meant),
                call(8, fun(9, x, take(10, x, call(11, meant, num(10)))), num(20)),
                take(4, x, call(5, fun(6, x, plus(7, meant, num(1))), num(10))),
            ]
            for part in binders:
                for whole in (
                    plus(20, part, meant), plus(20, meant, part), call(20, part, meant), call(20, meant, part),
                    pick(20, part, meant, plus(21, meant, meant)), plus(20, about(part), meant),
                    plus(20, about(plus(21, part, meant)), meant), call(20, fun(21, x, plus(22, meant, num(5))), part),
                    plus(20, plus(21, meant, part), meant), plus(20, part, about(plus(21, meant, part))),
                ):
                    piece = call(25, fun(26, x, about(whole)), num(100))
                    compare(self, about(plus(27, num(7), piece)), just_enough)
                    if x in ("x", "k"):
                        compare(self, piece, just_enough)
                        compare(self, call(25, fun(26, x, about(whole)), fun(23, x, plus(24, meant, num(1000)))),
                                just_enough)

    def test_sums_beyond_what_a_piece_may_have(self):
        for n in (TOP, -TOP):
            piece = nested(plus(1, num(n), num(n)), lambda part: plus(2, part, num(n)), 20)
            compare(self, piece)
            for way in THREE:
                self.assertEqual(way(piece, MOST), ("number", 22 * n))
        doubled = nested(num(TOP), lambda part: call(1, fun(2, "x", plus(3, X, X)), part), 25)
        for way in THREE:
            self.assertEqual(way(doubled, 75), ("number", TOP * 2 ** 25))

    def test_an_endless_one(self):
        for piece in (ENDLESS, about(ENDLESS), about(plus(1, num(1), ENDLESS)), pick(1, ENDLESS, num(1), num(2))):
            for way in THREE:
                for fuel in (0, 1, 2, 3, 100, 10000):
                    self.assertEqual(way(piece, fuel), ("dry",))

    def test_the_largest_pieces(self):
        with in_time():
            self.assertTrue(is_piece(wide(300)))
            compare(self, wide(300), just_enough)
            for hole in HOLES.values():
                for leaf in (num(1), fun(3, "x", X), take(4, "k", K), call(5, num(1), num(2))):
                    compare(self, nested(leaf, hole, 28), just_enough)
                    compare(self, about(nested(leaf, hole, 27)), just_enough)
            mixed = num(1)
            for at, hole in enumerate([HOLES[word] for word in ("plus b", "call f", "pick b", "round", "take")] * 5):
                mixed = hole(mixed)
                compare(self, mixed, just_enough)
                compare(self, about(mixed), just_enough)

    def test_another_piece_in_between(self):
        for piece, due, steps in RUNS.values():
            term = plain(piece)
            for way in THREE:
                way(ENDLESS, 50)
                self.assertEqual(way(piece, steps), due)
            self.assertEqual(run_plain(term, steps), due)


class Deep(unittest.TestCase):
    def told(self, piece, due, steps):
        with in_time(), no_deep_recursion():
            for way in THREE:
                self.assertEqual(way(piece, steps), due)
                self.assertEqual(way(piece, 10000), due)
                self.assertEqual(way(piece, steps - 1), ("dry",))
                self.assertEqual(way(piece, steps // 2), ("dry",))

    def deep(self, body, times, end):
        """A function of n that does a body, in which it calls itself with n - 1; end, where n is nought."""
        again = call(5, call(6, S, S), plus(7, N, num(-1)))
        itself = fun(1, "s", fun(2, "n", pick(3, N, end, body(again))))
        return call(8, fun(9, "s", call(10, call(11, S, S), num(times))), itself)

    def steps(self, piece):
        """How many steps it takes, by putting in, which is held against the oracle elsewhere."""
        low, high = 0, 10000
        self.assertNotEqual(by_putting(piece, high), ("dry",))
        while low < high:
            middle = (low + high) // 2
            if by_putting(piece, middle) == ("dry",):
                low = middle + 1
            else:
                high = middle
        return low

    def test_a_number_to_be_added_behind_each_call(self):
        for times in (1, 2, 1000, 1400, 1665):
            self.told(counted(times), ("number", times), 7 + 6 * times)

    def test_each_frame_behind_each_call(self):
        bodies = [
            (lambda part: plus(4, num(1), part), 1400), (lambda part: plus(4, part, num(1)), 1400),
            (lambda part: call(4, fun(12, "x", X), part), 0), (lambda part: pick(4, part, num(0), num(1)), 0),
            (about, 0), (lambda part: plus(4, num(1), about(part)), 1400),
            (lambda part: about(plus(4, num(1), part)), 1400),
        ]
        for body, due in bodies:
            times = 1400 if self.is_short(body) else 1100
            piece = self.deep(body, times, num(0))
            self.told(piece, ("number", times if due else 0), self.steps(piece))

    def is_short(self, body):
        return by_putting(self.deep(body, 1400, num(0)), 10000) != ("dry",)

    def test_it_is_called_what_comes_back(self):
        piece = self.deep(lambda part: call(4, part, fun(12, "x", X)), 1400, fun(13, "x", X))
        self.told(piece, ("function", 12), self.steps(piece))

    def test_a_stuck_place_so_deep(self):
        piece = self.deep(lambda part: plus(4, num(1), part), 1400, call(20, num(1), num(2)))
        self.told(piece, ("stuck", 20), self.steps(piece))
        piece = self.deep(lambda part: plus(4, num(1), part), 1400, take(21, "k", num(2)))
        self.told(piece, ("stuck", 21), self.steps(piece))
        piece = self.deep(lambda part: plus(4, num(1), part), 1400, fun(22, "x", X))
        self.told(piece, ("stuck", 4), self.steps(piece))

    def test_a_take_about_so_many_frames(self):
        def taking(times, end):
            return about(self.deep(lambda part: plus(4, num(1), part), times, end))

        ends = [
            (1400, num(5), ("number", 5)), (1400, K, ("kept", 12)), (1200, call(13, K, num(5)), ("number", 1205)),
            (1100, call(13, K, call(14, K, num(5))), ("number", 2205)),
            (1100, plus(13, call(14, K, num(1)), call(15, K, num(2))), ("number", 2203)),
            (1200, call(13, K, fun(14, "x", X)), ("stuck", 4)),
        ]
        for times, end, due in ends:
            piece = taking(times, take(12, "k", end))
            self.told(piece, due, self.steps(piece))

    def test_a_kept_of_so_many_frames_behind_the_round(self):
        held = about(self.deep(lambda part: plus(4, num(1), part), 1100, take(12, "k", K)))
        piece = call(13, fun(14, "k", plus(15, call(16, K, num(1)), call(17, K, num(2)))), held)
        self.told(piece, ("number", 2203), self.steps(piece))
        self.told(plus(18, held, num(1)), ("stuck", 18), self.steps(held))

    def test_a_take_at_each_call(self):
        # Each call takes what is still to be done, and goes on with it at once.
        piece = about(self.deep(lambda part: plus(4, num(1), take(12, "k", call(13, K, part))), 1000, num(0)))
        self.told(piece, ("number", 1000), self.steps(piece))
        piece = about(self.deep(lambda part: plus(4, take(12, "k", call(13, K, num(1))), part), 900, num(0)))
        self.told(piece, ("number", 900), self.steps(piece))

    def test_so_many_rounds(self):
        for times in (1, 10, 900):
            piece = self.deep(lambda part: about(plus(4, take(12, "k", call(13, K, num(1))), part)), times, num(0))
            self.told(piece, ("number", times), self.steps(piece))


class ManyPieces(unittest.TestCase):
    STEPS = 60

    @classmethod
    def setUpClass(cls):
        chance = Chance(random.Random(20261121))
        rows = [chance.closed() for _ in range(5000)]
        cls.pieces = [piece for piece in rows if is_closed(piece)]

    def test_they_come_to_the_same(self):
        kinds = collections.Counter()
        for piece in self.pieces:
            rows, due = history(piece, self.STEPS)
            for way in (by_machine, by_plain):
                self.assertEqual(way(piece, self.STEPS), due, piece)
            kinds[due[0], min(len(rows), 8)] += 1
        # The comparison says little unless the pieces come to all kinds of ends.
        for kind in ("number", "function", "kept", "stuck"):
            self.assertGreater(kinds[kind, 8], 10, kinds)

    def test_with_less_fuel(self):
        for piece in self.pieces[::8]:
            rows, _ = history(piece, self.STEPS)
            for fuel in range(min(len(rows) + 2, 30)):
                _, due = history(piece, fuel)
                for way in (by_machine, by_plain):
                    self.assertEqual(way(piece, fuel), due, (piece, fuel))

    def test_the_states(self):
        for piece in self.pieces[::5]:
            compare_states(self, piece, 30)


if __name__ == "__main__":
    unittest.main()
