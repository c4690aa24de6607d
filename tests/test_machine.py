"""moves, unloaded and by_machine, without their refusals."""

import copy
import unittest
from unittest import mock

from cutback import machine
from cutback.machine import by_machine, moves, unloaded
from cutback.putting import ways
from tests.comparing import ABOUT, ROWS, compare_states, no_deep_recursion
from tests.helpers import (
    HOLES, about, call, fun, in_time, kept, name, nested, num, pick, plus, same, shut, take, wide,
)
from tests.runs import ENDLESS, K, RUNS, S, X, counted

F = name("f")
Z = name("z")
MOST = 10 ** 6

# A value that holds the one ahead of it twice or more, and so on: nobody could
# go through all places in which the first one stands.
DOUBLED_SHUTS = call(1, fun(2, "s", call(3, call(4, S, S), fun(5, "z", Z))), fun(6, "s", fun(7, "f", call(
    8, call(9, S, S), fun(10, "z", call(11, F, call(12, F, Z)))))))
MANY_KEPTS = call(1, fun(2, "s", call(3, call(4, S, S), fun(5, "z", Z))), fun(6, "s", fun(7, "f", about(nested(
    take(9, "k", call(10, call(11, S, S), K)), lambda part: plus(8, part, call(12, F, call(13, F, num(1)))), 6)))))


class ByMachine(unittest.TestCase):
    def test_what_each_comes_to(self):
        for word, (piece, due, steps) in RUNS.items():
            with self.subTest(word):
                for fuel in (steps, steps + 1, steps + 2, 10000, MOST - 1, MOST):
                    answer = by_machine(piece, fuel)
                    self.assertIs(type(answer), tuple)
                    self.assertEqual(answer, due)

    def test_too_little_fuel(self):
        for word, (piece, _, steps) in RUNS.items():
            with self.subTest(word):
                for fuel in range(steps):
                    self.assertEqual(by_machine(piece, fuel), ("dry",))

    def test_an_endless_one(self):
        for fuel in (0, 1, 2, 3, 100, 10000):
            self.assertEqual(by_machine(ENDLESS, fuel), ("dry",))

    def test_it_never_puts_in(self):
        self.assertNotIn("put_in", vars(machine))
        with mock.patch("cutback.putting.put_in", side_effect=AssertionError):
            for piece, due, _ in RUNS.values():
                self.assertEqual(by_machine(piece, 1000), due)
                moves(piece, 1000)


class Moves(unittest.TestCase):
    def test_the_states_of_each(self):
        for word, (piece, _, _) in RUNS.items():
            with self.subTest(word):
                compare_states(self, piece)

    def test_each_row_in_each_frame(self):
        for row in ROWS.values():
            compare_states(self, row)
            compare_states(self, about(row))
            for frame in ABOUT.values():
                compare_states(self, frame(row))
                compare_states(self, about(frame(row)))

    def test_each_row_in_two_frames(self):
        for row in list(ROWS.values())[::2]:
            for frame in list(ABOUT.values())[::2]:
                for outer in ABOUT.values():
                    compare_states(self, outer(about(frame(row))), 12)

    def test_a_value_has_one_state(self):
        for fuel in (0, 1, MOST):
            self.assertEqual([unloaded(state) for state in moves(num(5), fuel)], [num(5)])

    def test_the_last_state_is_the_only_value(self):
        for word, (piece, _, _) in RUNS.items():
            with self.subTest(word):
                for state in moves(piece, MOST)[:-1]:
                    self.assertNotIn(unloaded(state)[0], ("num", "shut", "kept"))

    def test_it_ends_when_a_step_more_would_be_made(self):
        piece = plus(1, plus(2, num(1), num(2)), plus(3, num(3), num(4)))
        rows = ways(piece, MOST)
        self.assertEqual(len(rows), 4)
        for fuel in range(6):
            states = [unloaded(state) for state in moves(piece, fuel)]
            self.assertEqual(without_repeats(states), rows[:fuel + 1])

    def test_two_states_may_stand_for_the_same_piece(self):
        piece = plus(1, num(1), plus(2, num(2), num(3)))
        states = moves(piece, 0)
        self.assertGreater(len(states), 1)
        self.assertEqual([unloaded(state) for state in states], [piece] * len(states))

    def test_an_endless_one(self):
        states = moves(ENDLESS, 100)
        self.assertEqual(without_repeats([unloaded(state) for state in states])[:4], ways(ENDLESS, 3))
        self.assertEqual(unloaded(states[-1]), ways(ENDLESS, 100)[-1])
        many = [len(moves(ENDLESS, fuel)) for fuel in range(200)]
        self.assertTrue(all(1 <= after - ahead <= 100 for ahead, after in zip(many, many[1:])))

    def test_the_largest_pieces(self):
        compare_states(self, wide(300))
        leaves = [num(1), fun(3, "x", X), take(4, "k", K), call(5, num(1), num(2))]
        for hole in HOLES.values():
            for leaf in leaves:
                compare_states(self, nested(leaf, hole, 28))
                compare_states(self, about(nested(leaf, hole, 27)))

    def test_a_piece_that_is_gone_into_over_and_over(self):
        # Each step leaves as many parts to be gone into as can be.
        deep = nested(call(1, X, num(1)), lambda part: plus(2, num(1), part), 25)
        compare_states(self, call(3, fun(4, "x", deep), fun(5, "y", name("y"))), 60)
        compare_states(self, about(plus(6, take(7, "k", call(8, K, num(1))), nested(num(2), lambda part: plus(
            9, num(1), part), 26))), 60)

    def test_by_a_hundred_steps(self):
        for piece in (counted(20), about(counted(20)), plus(1, num(1), about(counted(20)))):
            compare_states(self, piece, 100)

    def test_values_that_stand_in_others_very_often(self):
        with in_time():
            for piece in (DOUBLED_SHUTS, MANY_KEPTS):
                rows = ways(piece, 100)
                self.assertEqual(len(rows), 101)
                for fuel in (0, 1, 7, 50, 93, 94, 95, 96, 97, 98, 99, 100):
                    self.assertTrue(same(unloaded(moves(piece, fuel)[-1]), rows[fuel]))
                for state in moves(piece, 100):
                    unloaded(state)

    def test_many_steps(self):
        with in_time(), no_deep_recursion():
            steps = 7 + 6 * 1600
            states = moves(counted(1600), 10000)
            self.assertEqual(unloaded(states[-1]), num(1600))
            self.assertEqual(len(moves(counted(1600), steps)), len(states))
            self.assertLess(len(moves(counted(1600), steps - 1)), len(states))
            self.assertLessEqual(len(states), 100 * (steps + 1))


class Unloaded(unittest.TestCase):
    def told(self, piece, fuel, due):
        self.assertEqual(unloaded(moves(piece, fuel)[-1]), due)

    def test_the_first_state(self):
        for word, (piece, _, _) in RUNS.items():
            with self.subTest(word):
                for fuel in (0, 1, MOST):
                    self.assertEqual(unloaded(moves(piece, fuel)[0]), piece)

    def test_a_shut_with_values_in_it(self):
        inner = fun(3, "y", plus(4, X, plus(5, name("y"), take(6, "x", X))))
        self.told(call(1, fun(2, "x", inner), num(7)), 3,
                  shut(3, "y", plus(4, num(7), plus(5, name("y"), take(6, "x", X)))))

    def test_a_shut_that_binds_the_name_again(self):
        self.told(call(1, fun(2, "x", fun(3, "x", X)), num(7)), 3, shut(3, "x", X))
        self.told(call(1, fun(2, "x", fun(3, "y", fun(4, "x", X))), num(7)), 3, shut(3, "y", fun(4, "x", X)))
        self.told(call(1, fun(2, "x", fun(3, "y", call(4, fun(5, "x", X), X))), num(7)), 3,
                  shut(3, "y", call(4, fun(5, "x", X), num(7))))

    def test_a_shut_within_a_shut(self):
        self.told(call(1, fun(2, "x", fun(3, "y", X)), fun(4, "y", name("y"))), 4,
                  shut(3, "y", shut(4, "y", name("y"))))

    def test_a_kept_of_each_frame(self):
        body = about(take(1, "k", K))
        self.told(body, 1, about(kept(1)))
        self.told(body, 2, kept(1))
        rows = [
            (call(5, take(1, "k", K), X), ("caller", 5, num(7))),
            (call(5, X, take(1, "k", K)), ("given", 5, num(7))),
            (plus(5, take(1, "k", K), call(6, X, X)), ("adder", 5, call(6, num(7), num(7)))),
            (plus(5, X, take(1, "k", K)), ("added", 5, num(7))),
            (pick(5, take(1, "k", K), X, fun(6, "x", X)), ("picker", 5, num(7), fun(6, "x", X))),
        ]
        for part, frame in rows:
            piece = call(2, fun(3, "x", about(part)), num(7))
            self.told(piece, 3, about(kept(1, frame)))
            self.told(piece, 4, kept(1, frame))
            for further, second in rows:
                whole = (*further[:2], *[part if inner == take(1, "k", K) else inner for inner in further[2:]])
                self.told(call(2, fun(3, "x", about(whole)), num(7)), 4, kept(1, frame, second))

    def test_a_kept_in_a_kept(self):
        piece = about(plus(1, about(plus(2, num(5), take(3, "k", K))), take(4, "j", name("j"))))
        self.told(piece, 4, kept(4, ("added", 1, kept(3, ("added", 2, num(5))))))

    def test_frames_that_a_kept_brought(self):
        piece = about(plus(1, num(10), take(2, "k", call(3, K, fun(4, "x", X)))))
        held = kept(2, ("added", 1, num(10)))
        self.told(piece, 1, about(call(3, held, fun(4, "x", X))))
        self.told(piece, 2, about(call(3, held, shut(4, "x", X))))
        self.told(piece, 3, about(about(plus(1, num(10), shut(4, "x", X)))))

    def test_the_kinds_of_what_is_told(self):
        with in_time():
            for piece, _, _ in RUNS.values():
                for fuel, row in enumerate(ways(piece, 60)):
                    self.assertTrue(same(unloaded(moves(piece, fuel)[-1]), row))


class TheAskersOwn(unittest.TestCase):
    def test_the_list(self):
        for word, (piece, due, _) in RUNS.items():
            with self.subTest(word):
                first = moves(piece, 100)
                rows = [unloaded(state) for state in first]
                spare = list(first)
                first.append(None)
                first[0] = num(99)
                second = moves(piece, 100)
                self.assertEqual([unloaded(state) for state in second], rows)
                second.clear()
                self.assertEqual([unloaded(state) for state in spare], rows)
                self.assertEqual([unloaded(state) for state in moves(piece, 100)], rows)
                self.assertEqual(by_machine(piece, 100), due)

    def test_another_piece_in_between(self):
        pieces = [piece for piece, _, _ in RUNS.values()]
        lists = [moves(piece, 60) for piece in pieces]
        for states, piece in zip(lists, pieces):
            moves(ENDLESS, 20)
            self.assertEqual(without_repeats([unloaded(state) for state in states]), without_repeats(ways(piece, 60)))

    def test_what_is_handed_in_stays(self):
        for piece, _, _ in RUNS.values():
            before = copy.deepcopy(piece)
            for state in moves(piece, 100):
                unloaded(state)
            by_machine(piece, 100)
            self.assertEqual(piece, before)


def without_repeats(rows):
    """Rows without those that are equal to the one ahead."""
    return [row for at, row in enumerate(rows) if at == 0 or row != rows[at - 1]]


if __name__ == "__main__":
    unittest.main()
