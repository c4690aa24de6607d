"""run_plain of terms that no piece becomes, and by_plain; without their refusals."""

import collections
import copy
import random
import unittest

from cutback.running import by_plain, run_plain
from cutback.translating import plain
from tests.comparing import no_deep_recursion
from tests.helpers import in_time, name, num
from tests.runs import ENDLESS, RUNS
from tests.terms import (
    END, HALT, ChanceOfTerms, Unsaid, ask, call_on, choice, code, due_of, faults, give, last, leave, let, shut_in,
    sum_of, then,
)

MOST = 10 ** 6
C = name("c")
G = name("g")
H = name("h")
K = name("k")
V = name("v")
W = name("w")
X = name("x")
Y = name("y")

# Codes, thens and lasts that tell what they are handed, or go on with it.
SAME = code("function", 7, "w", "k", "g", give(W, K, G))
HELD = code("kept", 8, "w", "k", "g", give(W, K, G))
TELLS = then("v", "g", give(V))
LEAVES = then("v", "g", leave(G, V))
ENDS = last("v", give(V))
ADDS = then("v", "g", sum_of(90, V, num(100), HALT, G))
CALLS = call_on(2, X, X)
ONE = num(1)
TWO = num(2)


def bound_again(p, t, x="x"):
    """x is 1 where p stands, which is y; it is 2 where p is used, in t."""
    return let(x, ONE, let("y", p, let(x, TWO, t)))


# A plain term, what it tells, and after how many steps.
TERMS = {
    "pass: a number": (give(num(5)), ("number", 5), 0),
    "pass: a function": (give(SAME), ("function", 7), 0),
    "pass: a kept": (give(HELD), ("kept", 8), 0),
    "pass: halt asks for no g": (give(num(5), HALT, ENDS), ("number", 5), 0),
    "pass: to a then": (give(num(5), TELLS), ("number", 5), 0),
    "pass: g goes to the then": (give(num(5), LEAVES, ENDS), ("number", 5), 1),
    "pass: through thens": (give(num(5), then("v", "g", give(V, then("w", "h", give(W, LEAVES, H)), G)), ENDS),
                            ("number", 5), 1),
    "pass: the then that a name means": (let("k", ADDS, give(num(5), K)), ("number", 105), 1),
    "pass: the halt that a name means": (let("k", HALT, give(num(5), K)), ("number", 5), 0),
    "leave: to a last": (leave(ENDS, num(5)), ("number", 5), 1),
    "leave: to a last that does more": (leave(last("v", sum_of(1, V, V)), num(5)), ("number", 10), 2),
    "leave: to a last that leaves": (leave(last("v", leave(ENDS, V)), num(5)), ("number", 5), 2),
    "leave: to the last that a name means": (let("g", ENDS, leave(G, num(5))), ("number", 5), 1),
    "shut: a function": (shut_in(SAME), ("function", 7), 1),
    "shut: a kept": (shut_in(HELD), ("kept", 8), 1),
    "shut: the code goes to k": (shut_in(SAME, then("v", "g", call_on(1, V, num(5)))), ("number", 5), 2),
    "shut: g goes to k": (shut_in(SAME, LEAVES, ENDS), ("function", 7), 2),
    "shut: the code that a name means": (let("c", SAME, shut_in(C)), ("function", 7), 1),
    "call: a function": (call_on(1, SAME, num(5)), ("number", 5), 1),
    "call: a kept": (call_on(1, HELD, num(5)), ("number", 5), 1),
    "call: with a code": (call_on(1, SAME, HELD), ("kept", 8), 1),
    "call: k goes to the code": (call_on(1, SAME, num(5), ADDS), ("number", 105), 2),
    "call: g goes to the code": (call_on(1, SAME, num(5), LEAVES, ENDS), ("number", 5), 2),
    "call: g goes to the code, which leaves": (
        call_on(1, code("kept", 1, "w", "k", "g", leave(G, W)), num(5), HALT, ENDS), ("number", 5), 2),
    "call: a code that drops k": (
        call_on(1, code("function", 1, "w", "k", "g", give(W)), num(5), ADDS), ("number", 5), 1),
    "call: a code that has k twice": (
        call_on(1, code("function", 1, "w", "k", "g", give(W, then("v", "h", give(V, K, H)), G)), num(5), ADDS, END),
        ("number", 105), 2),
    "call: a number": (call_on(3, num(1), num(5)), ("stuck", 3), 0),
    "call: no code behind a step": (sum_of(1, ONE, TWO, then("v", "g", call_on(4, V, V))), ("stuck", 4), 1),
    "call: a then": (call_on(3, TELLS, num(5)), ("stuck", 3), 0),
    "call: a last": (call_on(3, ENDS, num(5)), ("stuck", 3), 0),
    "call: halt": (call_on(3, HALT, num(5)), ("stuck", 3), 0),
    "call: end": (call_on(3, END, num(5)), ("stuck", 3), 0),
    "call: itself for ever": (let("x", code("function", 1, "x", "k", "g", CALLS), CALLS), ("dry",), None),
    "plus: two numbers": (sum_of(1, TWO, num(3)), ("number", 5), 1),
    "plus: above 10 ** 12": (sum_of(1, num(10 ** 30), num(10 ** 12)), ("number", 10 ** 30 + 10 ** 12), 1),
    "plus: below nought": (sum_of(1, num(-10 ** 12), num(-5)), ("number", -10 ** 12 - 5), 1),
    "plus: the sum goes to k": (sum_of(1, TWO, num(3), ADDS), ("number", 105), 2),
    "plus: g goes to k": (sum_of(1, TWO, num(3), LEAVES, ENDS), ("number", 5), 2),
    "plus: with a function": (sum_of(3, TWO, SAME), ("stuck", 3), 0),
    "plus: of a kept": (sum_of(3, HELD, TWO), ("stuck", 3), 0),
    "plus: of two codes": (sum_of(3, HELD, HELD), ("stuck", 3), 0),
    "plus: of a then": (sum_of(3, TELLS, TWO), ("stuck", 3), 0),
    "plus: with a last": (sum_of(3, TWO, ENDS), ("stuck", 3), 0),
    "plus: with halt": (sum_of(3, TWO, HALT), ("stuck", 3), 0),
    "plus: of end": (sum_of(3, END, TWO), ("stuck", 3), 0),
    "pick: nought": (choice(1, num(0), give(ONE), give(TWO)), ("number", 1), 1),
    "pick: another": (choice(1, num(7), give(ONE), give(TWO)), ("number", 2), 1),
    "pick: below nought": (choice(1, num(-7), give(ONE), give(TWO)), ("number", 2), 1),
    "pick: the other is not run": (choice(1, num(0), give(ONE), call_on(2, ONE, ONE)), ("number", 1), 1),
    "pick: of what is named": (let("x", num(0), choice(1, X, give(X), give(TWO))), ("number", 0), 1),
    "pick: a function": (choice(4, SAME, give(ONE), give(TWO)), ("stuck", 4), 0),
    "pick: a kept": (choice(4, HELD, give(ONE), give(TWO)), ("stuck", 4), 0),
    "pick: a then": (choice(4, TELLS, give(ONE), give(TWO)), ("stuck", 4), 0),
    "pick: a last": (choice(4, ENDS, give(ONE), give(TWO)), ("stuck", 4), 0),
    "pick: halt": (choice(4, HALT, give(ONE), give(TWO)), ("stuck", 4), 0),
    "pick: end": (choice(4, END, give(ONE), give(TWO)), ("stuck", 4), 0),
    "ask: end": (ask(5, END, give(ONE)), ("stuck", 5), 0),
    "ask: the end that a name means": (let("g", END, ask(5, G, give(ONE))), ("stuck", 5), 0),
    "ask: the end that a then is given": (give(ONE, then("v", "g", ask(5, G, give(V)))), ("stuck", 5), 0),
    "ask: the end that a code is given": (
        call_on(1, code("function", 1, "w", "k", "g", ask(5, G, give(W))), ONE), ("stuck", 5), 1),
    "ask: a last": (ask(5, ENDS, give(ONE)), ("number", 1), 1),
    "ask: the last that a name means": (let("g", ENDS, ask(5, G, leave(G, TWO))), ("number", 2), 2),
    "ask: the last that a then is given": (give(ONE, then("v", "g", ask(5, G, give(V))), ENDS), ("number", 1), 1),
    "let: a number": (let("x", num(5), give(X)), ("number", 5), 0),
    "let: a code": (let("x", SAME, give(X)), ("function", 7), 0),
    "let: bound again": (let("x", ONE, let("x", TWO, give(X))), ("number", 2), 0),
    "let: the name ahead is meant": (let("x", ONE, let("x", X, give(X))), ("number", 1), 0),
    "let: a name for a name": (let("x", ONE, let("y", X, let("x", TWO, sum_of(1, X, Y)))), ("number", 3), 1),
    "let: a code for a code": (
        let("x", SAME, let("x", code("kept", 9, "w", "k", "g", call_on(1, X, W, K, G)), call_on(2, X, num(5)))),
        ("number", 5), 2),
    "let: what a step comes to": (
        sum_of(1, ONE, TWO, then("v", "g", let("v", V, let("w", V, sum_of(2, V, W))))), ("number", 6), 2),
    "bound again: a code": (
        bound_again(code("function", 3, "w", "k", "g", give(X, K, G)), call_on(4, Y, X)), ("number", 1), 1),
    "bound again: a kept": (
        bound_again(code("kept", 3, "w", "k", "g", give(X, K, G)), call_on(4, Y, X)), ("number", 1), 1),
    "bound again: a then": (bound_again(then("v", "g", give(X)), give(X, Y)), ("number", 1), 0),
    "bound again: a last": (bound_again(last("v", give(X)), leave(Y, X)), ("number", 1), 1),
    "bound again: a name": (bound_again(X, sum_of(1, X, Y)), ("number", 3), 1),
    "bound again: a then that is given by a shut": (
        bound_again(then("v", "g", give(X)), shut_in(SAME, Y)), ("number", 1), 1),
    "bound again: a then that is given by a plus": (
        bound_again(then("v", "g", sum_of(1, V, X)), sum_of(1, X, X, Y)), ("number", 5), 2),
    "bound again: a code in a code": (
        bound_again(code("function", 3, "x", "k", "g", give(code("kept", 4, "w", "k", "g", give(X, K, G)), K, G)),
                    call_on(4, Y, num(7), then("v", "g", let("x", num(9), call_on(5, V, X))))), ("number", 7), 2),
    "bound again: by the w of a code": (
        let("x", ONE, call_on(1, code("function", 3, "x", "k", "g", give(X, K, G)), TWO, then("v", "g", sum_of(
            1, V, X)))), ("number", 3), 2),
    "bound again: by the k of a code": (
        let("x", ONE, call_on(1, code("function", 3, "w", "x", "g", give(W, X, G)), TWO, then("v", "g", sum_of(
            1, V, X)))), ("number", 3), 2),
    "bound again: by the g of a code": (
        let("x", ONE, call_on(1, code("function", 3, "w", "k", "x", leave(X, W)), TWO, HALT, last("v", sum_of(
            1, V, X)))), ("number", 3), 3),
    "bound again: by the w of a then": (
        let("x", ONE, give(TWO, then("x", "g", give(X, then("v", "g", sum_of(1, V, X)))))),
        ("number", 4), 1),
    "bound again: by the w of a then, but not behind it": (
        let("x", ONE, let("k", then("v", "g", sum_of(1, V, X)), give(TWO, then("x", "g", give(X, K))))),
        ("number", 3), 1),
    "bound again: by the g of a then": (
        let("x", ONE, let("k", then("v", "g", sum_of(1, V, X)), give(TWO, then("v", "x", leave(X, V)), last(
            "x", give(X, K))))), ("number", 3), 2),
    "bound again: by the w of a last": (
        let("x", ONE, let("k", then("v", "g", sum_of(1, V, X)), leave(last("x", give(X, K)), TWO))),
        ("number", 3), 2),
    "bound again: the code calls itself by another's name": (
        let("c", SAME, let("c", code("function", 3, "w", "k", "g", call_on(4, C, W, K, G)), call_on(5, C, num(6)))),
        ("number", 6), 2),
    "bound again: the k that a code was given": (
        let("k", TELLS, let("c", code("function", 3, "w", "k", "g", give(W, K, G)), call_on(1, C, num(5), ADDS))),
        ("number", 105), 2),
    "bound again: the k that was there where a then stands": (
        let("k", ADDS, let("y", then("v", "g", give(V, K, G)), let("k", TELLS, give(num(5), Y)))), ("number", 105), 1),
    "bound again: the g that was there where a then stands": (
        let("g", last("v", sum_of(1, V, ONE)), let("y", then("v", "h", leave(G, V)), let("g", ENDS, give(
            num(5), Y, G)))), ("number", 6), 2),
    "bound again: in one part of a pick": (
        let("x", ONE, choice(1, num(0), let("x", TWO, give(X)), give(X))), ("number", 2), 1),
    "bound again: in the other part of a pick": (
        let("x", ONE, choice(1, num(3), let("x", TWO, give(X)), give(X))), ("number", 1), 1),
    "bound again: behind an ask": (
        let("x", ONE, ask(1, ENDS, let("y", X, let("x", TWO, sum_of(1, X, Y))))), ("number", 3), 2),
    "names of all kinds": (
        let("", ONE, let("a b", TWO, let("K1", num(4), let("name", num(8), sum_of(1, name(""), name("a b"), then(
            "num", "halt", sum_of(1, name("num"), name("K1"), then("v", "g", sum_of(1, V, name("name")))))))))),
        ("number", 15), 3),
    "names that are not lost by a step": (
        let("p", ONE, let("k", TWO, let("g", num(4), sum_of(1, num(8), num(16), then("v", "h", sum_of(
            1, V, name("p"), then("v", "h", sum_of(1, V, K, then("v", "h", sum_of(1, V, G)))))))))), ("number", 31), 4),
    "the first step that is stuck": (
        sum_of(1, ONE, TWO, then("v", "g", call_on(2, V, V, then("w", "h", call_on(3, W, W))))), ("stuck", 2), 1),
    "each word": (
        let("x", ONE, shut_in(SAME, then("c", "g", ask(1, G, call_on(2, C, X, then("v", "g", sum_of(
            3, V, X, then("w", "g", choice(4, W, give(ONE), leave(G, W))), G)), G))), ENDS)), ("number", 2), 6),
}


def down(times, rest):
    """Calls itself so many times, each k being a then that holds the k ahead of it; then rest, of k and g."""
    body = choice(1, name("n"), rest, sum_of(2, name("n"), num(-1), then("m", "g", call_on(
        3, C, C, then("f", "g", call_on(4, name("f"), name("m"), then("v", "g", sum_of(5, V, ONE, K, G)), G)), G)), G))
    inner = code("function", 6, "n", "k", "g", body)
    outer = code("function", 7, "c", "k", "g", give(inner, K, G))
    return let("c", outer, call_on(8, C, C, then("f", "g", call_on(9, name("f"), num(times), HALT, END))))


class RunPlain(unittest.TestCase):
    def test_they_are_plain_terms(self):
        for word, (term, _, _) in TERMS.items():
            self.assertEqual(faults(term), [], word)

    def test_what_each_tells(self):
        for word, (term, due, steps) in TERMS.items():
            if steps is not None:
                with self.subTest(word):
                    for fuel in (steps, steps + 1, steps + 2, 10000, MOST - 1, MOST):
                        answer = run_plain(term, fuel)
                        self.assertIs(type(answer), tuple)
                        self.assertEqual(answer, due)

    def test_too_little_fuel(self):
        for word, (term, _, steps) in TERMS.items():
            with self.subTest(word):
                for fuel in range(20 if steps is None else steps):
                    self.assertEqual(run_plain(term, fuel), ("dry",))

    def test_the_second_way_tells_the_same(self):
        for word, (term, due, _) in TERMS.items():
            with self.subTest(word):
                self.assertEqual(due_of(term, 100), due)

    def test_an_endless_one(self):
        term, _, _ = TERMS["call: itself for ever"]
        for fuel in (0, 1, 2, 100, 10000):
            self.assertEqual(run_plain(term, fuel), ("dry",))

    def test_what_is_handed_in_stays(self):
        for term, due, _ in TERMS.values():
            before = copy.deepcopy(term)
            self.assertEqual(run_plain(term, 50), due)
            self.assertEqual(term, before)
            self.assertEqual(run_plain(term, 50), due)

    def test_random_ones(self):
        chance = ChanceOfTerms(random.Random(20261120))
        kinds = collections.Counter()
        for at in range(12000):
            term = chance.closed()
            try:
                due = due_of(term, 40)
            except Unsaid:
                continue
            self.assertEqual(run_plain(term, 40), due, term)
            kinds[due[0]] += 1
            if at % 10 == 0:
                for fuel in range(12):
                    self.assertEqual(run_plain(term, fuel), due_of(term, fuel), (term, fuel))
        # The comparison says little unless the terms come to all kinds of ends.
        for kind in ("number", "function", "kept", "stuck", "dry"):
            self.assertGreater(kinds[kind], 30, kinds)


class Deep(unittest.TestCase):
    def test_many_thens_held_one_by_another(self):
        with in_time(), no_deep_recursion():
            for times in (0, 1, 2, 1400, 1999):
                # A pick, two sums and two calls for each, and two calls and a pick besides.
                steps = 5 * times + 3
                term = down(times, give(num(0), K, G))
                self.assertEqual(run_plain(term, steps), ("number", times))
                self.assertEqual(run_plain(term, 10000), ("number", times))
                self.assertEqual(run_plain(term, steps - 1), ("dry",))

    def test_many_lets(self):
        term = sum_of(1, name("x0"), name("x4999"))
        for at in reversed(range(1, 5000)):
            term = let(f"x{at}", name(f"x{at - 1}"), term)
        with in_time(), no_deep_recursion():
            self.assertEqual(run_plain(let("x0", num(5), term), 1), ("number", 10))

    def test_many_passes(self):
        term = give(name("x"))
        for _ in range(5000):
            term = give(name("x"), then("x", "g", term), G)
        with in_time(), no_deep_recursion():
            self.assertEqual(run_plain(let("x", num(5), let("g", END, term)), 0), ("number", 5))

    def test_thens_that_a_let_holds(self):
        term = give(num(0), name("k4999"))
        for at in reversed(range(1, 5000)):
            term = let(f"k{at}", then("v", "g", sum_of(1, V, ONE, name(f"k{at - 1}"), G)), term)
        term = let("k0", HALT, term)
        with in_time(), no_deep_recursion():
            self.assertEqual(run_plain(term, 4999), ("number", 4999))
            self.assertEqual(run_plain(term, 4998), ("dry",))

    def test_lasts_that_a_let_holds(self):
        term = leave(name("g4999"), num(0))
        for at in reversed(range(1, 5000)):
            term = let(f"g{at}", last("v", leave(name(f"g{at - 1}"), V)), term)
        term = let("g0", ENDS, term)
        with in_time(), no_deep_recursion():
            self.assertEqual(run_plain(term, 5000), ("number", 0))
            self.assertEqual(run_plain(term, 4999), ("dry",))


class ByPlain(unittest.TestCase):
    def test_what_each_comes_to(self):
        for word, (piece, due, steps) in RUNS.items():
            with self.subTest(word):
                for fuel in (steps, steps + 1, steps + 2, 10000, MOST - 1, MOST):
                    answer = by_plain(piece, fuel)
                    self.assertIs(type(answer), tuple)
                    self.assertEqual(answer, due)
                    self.assertEqual(run_plain(plain(piece), fuel), due)

    def test_too_little_fuel(self):
        for word, (piece, _, steps) in RUNS.items():
            with self.subTest(word):
                for fuel in range(steps):
                    self.assertEqual(by_plain(piece, fuel), ("dry",))
                    self.assertEqual(run_plain(plain(piece), fuel), ("dry",))

    def test_an_endless_one(self):
        for fuel in (0, 1, 2, 3, 100, 10000):
            self.assertEqual(by_plain(ENDLESS, fuel), ("dry",))

    def test_what_is_handed_in_stays(self):
        for piece, _, _ in RUNS.values():
            before = copy.deepcopy(piece)
            by_plain(piece, 100)
            self.assertEqual(piece, before)


if __name__ == "__main__":
    unittest.main()
