"""ways and by_putting, without their refusals."""

import copy
import unittest

from cutback.pieces import is_closed
from cutback.putting import by_putting, stepped, ways
from tests.helpers import (
    ONES, about, call, fun, in_time, kept, nested, num, pick, plus, same, shut, take, wide,
)
from tests.oracle import history
from tests.runs import ENDLESS, K, N, RUNS, S, X, counted

MOST = 10 ** 6


class ByPutting(unittest.TestCase):
    def test_what_each_comes_to(self):
        for word, (piece, due, steps) in RUNS.items():
            with self.subTest(word):
                self.assertTrue(is_closed(piece))
                for fuel in (steps, steps + 1, steps + 2, 10000, MOST - 1, MOST):
                    answer = by_putting(piece, fuel)
                    self.assertIs(type(answer), tuple)
                    self.assertEqual(answer, due)

    def test_too_little_fuel(self):
        for word, (piece, _, steps) in RUNS.items():
            with self.subTest(word):
                for fuel in range(steps):
                    self.assertEqual(by_putting(piece, fuel), ("dry",))

    def test_an_endless_one(self):
        for fuel in (0, 1, 2, 3, 100, 10000):
            self.assertEqual(by_putting(ENDLESS, fuel), ("dry",))
            self.assertEqual(by_putting(about(plus(1, ENDLESS, num(1))), fuel), ("dry",))

    def test_the_answer_is_a_plain_number(self):
        self.assertEqual(by_putting(plus(1, num(1), num(0)), 1), ("number", 1))
        self.assertIs(type(by_putting(plus(1, num(1), num(0)), 1)[1]), int)

    def test_a_deep_one(self):
        with in_time():
            steps = 7 + 6 * 1600
            self.assertEqual(by_putting(counted(1600), steps), ("number", 1600))
            self.assertEqual(by_putting(counted(1600), steps - 1), ("dry",))
            self.assertEqual(by_putting(counted(1600), MOST), ("number", 1600))

    def test_a_deep_take(self):
        # At the bottom what is still to be done is taken up, and gone on with twice.
        body = pick(3, N, take(12, "k", call(13, K, call(14, K, num(5)))),
                    plus(4, num(1), call(5, call(6, S, S), plus(7, N, num(-1)))))
        piece = about(call(8, fun(9, "s", call(10, call(11, S, S), num(600))), fun(1, "s", fun(2, "n", body))))
        with in_time():
            self.assertEqual(by_putting(piece, 10000), ("number", 1205))

    def test_the_largest_pieces(self):
        for piece in (wide(300), nested(num(1), about, 29), nested(num(1), lambda part: fun(3, "x", part), 29)):
            rows, due = history(piece, 1000)
            self.assertEqual(by_putting(piece, MOST), due)
            self.assertEqual(ways(piece, MOST), rows)


class Ways(unittest.TestCase):
    def test_each_piece_from_the_first_on(self):
        piece = about(plus(1, num(10), take(2, "k", call(3, K, fun(4, "x", X)))))
        held = kept(2, ("added", 1, num(10)))
        value = shut(4, "x", X)
        rows = [
            piece,
            about(call(3, held, fun(4, "x", X))),
            about(call(3, held, value)),
            about(about(plus(1, num(10), value))),
        ]
        for fuel in range(8):
            self.assertEqual(ways(piece, fuel), rows[:fuel + 1])

    def test_until_a_value(self):
        piece = call(1, fun(2, "x", plus(3, X, X)), num(4))
        rows = [piece, call(1, shut(2, "x", plus(3, X, X)), num(4)), plus(3, num(4), num(4)), num(8)]
        for fuel in range(6):
            self.assertEqual(ways(piece, fuel), rows[:fuel + 1])
        self.assertEqual(ways(piece, MOST), rows)

    def test_how_many(self):
        for word, (piece, _, steps) in RUNS.items():
            with self.subTest(word):
                for fuel in [0, 1, 2, steps - 1, steps, steps + 1, MOST]:
                    if fuel >= 0:
                        rows = ways(piece, fuel)
                        self.assertIs(type(rows), list)
                        self.assertEqual(len(rows), 1 + min(fuel, steps))
                        self.assertEqual(rows[0], piece)

    def test_each_is_what_a_step_makes_of_the_one_ahead(self):
        for word, (piece, due, steps) in RUNS.items():
            with self.subTest(word):
                rows = ways(piece, MOST)
                for one, following in zip(rows, rows[1:]):
                    self.assertEqual(stepped(one), ("step", following))
                last = stepped(rows[-1])
                self.assertEqual(last[0], "stuck" if due[0] == "stuck" else "value")
                self.assertEqual((rows, due), history(piece, MOST))

    def test_no_fuel(self):
        for piece in [num(1), fun(1, "x", X), plus(1, num(1), num(1)), take(1, "k", K), ENDLESS]:
            self.assertEqual(ways(piece, 0), [piece])

    def test_an_endless_one(self):
        rows = ways(ENDLESS, 9999)
        self.assertEqual(len(rows), 10000)
        call_again = call(5, shut(4, "x", call(5, X, X)), shut(4, "x", call(5, X, X)))
        self.assertEqual(rows[0], ENDLESS)
        self.assertEqual(rows[1], call(1, shut(2, "x", call(3, X, X)), fun(4, "x", call(5, X, X))))
        self.assertEqual(rows[2], call(1, shut(2, "x", call(3, X, X)), shut(4, "x", call(5, X, X))))
        self.assertEqual(rows[3], call(3, shut(4, "x", call(5, X, X)), shut(4, "x", call(5, X, X))))
        self.assertEqual(rows[4:], [call_again] * 9996)

    def test_deep_ones(self):
        with in_time():
            rows = ways(counted(400), 10000)
        self.assertEqual(len(rows), 7 + 6 * 400 + 1)
        for one, following in list(zip(rows, rows[1:]))[::97]:
            answer = stepped(one)
            self.assertEqual(answer[0], "step")
            self.assertTrue(same(answer[1], following))
        self.assertEqual(rows[-1], num(400))

    def test_the_list_is_the_askers_own(self):
        for word, (piece, due, steps) in RUNS.items():
            with self.subTest(word):
                first = ways(piece, 100)
                kept_copy = copy.deepcopy(first)
                first.append(None)
                first[0] = num(99)
                second = ways(piece, 100)
                self.assertEqual(second, kept_copy)
                second.clear()
                self.assertEqual(ways(piece, 100), kept_copy)
                self.assertEqual(by_putting(piece, 100), due)

    def test_what_is_handed_in_stays(self):
        for word, (piece, _, _) in RUNS.items():
            before = copy.deepcopy(piece)
            ways(piece, 100)
            by_putting(piece, 100)
            stepped(piece)
            self.assertEqual(piece, before)

    def test_each_form(self):
        for piece in ONES.values():
            if is_closed(piece):
                self.assertEqual(ways(piece, 10), history(piece, 10)[0])


if __name__ == "__main__":
    unittest.main()
