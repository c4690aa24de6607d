"""Pieces with what they come to, for the tests of each way by which a piece is done."""

from tests.helpers import about, call, fun, name, num, pick, plus, take

J = name("j")
K = name("k")
N = name("n")
S = name("s")
X = name("x")


def doubling(times):
    """A call that doubles 10 ** 12 - 1 so many times: of functions of functions."""
    piece = num(10 ** 12 - 1)
    for _ in range(times):
        piece = call(1, fun(2, "x", plus(3, X, X)), piece)
    return piece


# Counts n down to nought, with one more left to add each time: 6 steps for
# each, and 7 others.
COUNTER = fun(1, "s", fun(2, "n", pick(3, N, num(0), plus(4, num(1), call(5, call(6, S, S), plus(7, N, num(-1)))))))


def counted(n):
    return call(8, fun(9, "s", call(10, call(11, S, S), num(n))), COUNTER)


ENDLESS = call(1, fun(2, "x", call(3, X, X)), fun(4, "x", call(5, X, X)))

# A piece, what it comes to, and after how many steps.
RUNS = {
    "a number": (num(5), ("number", 5), 0),
    "a function": (fun(7, "x", X), ("function", 7), 1),
    "a sum": (plus(1, num(2), num(3)), ("number", 5), 1),
    "a sum of sums": (plus(1, plus(2, num(1), num(2)), plus(3, num(3), num(4))), ("number", 10), 3),
    "a pick of nought": (pick(1, num(0), num(2), num(3)), ("number", 2), 1),
    "a pick of another": (pick(1, num(5), num(2), num(3)), ("number", 3), 1),
    "the other of a pick is not done": (pick(1, num(0), num(2), call(2, num(1), num(1))), ("number", 2), 1),
    "a call": (call(1, fun(2, "x", plus(3, X, X)), num(4)), ("number", 8), 3),
    "a function from a call": (call(1, fun(2, "x", fun(3, "y", X)), num(4)), ("function", 3), 3),
    "a round": (about(num(3)), ("number", 3), 1),
    "rounds": (about(about(about(num(3)))), ("number", 3), 3),
    "a kept": (about(take(4, "k", K)), ("kept", 4), 2),
    "a kept with frames": (about(plus(1, num(2), take(4, "k", K))), ("kept", 4), 2),
    "a call of a number": (call(3, num(1), num(2)), ("stuck", 3), 0),
    "a call of a number behind steps": (call(3, plus(1, num(1), num(1)), fun(2, "x", X)), ("stuck", 3), 2),
    "a plus of a function": (plus(6, fun(1, "x", X), num(1)), ("stuck", 6), 1),
    "a plus with a function": (plus(6, num(1), fun(1, "x", X)), ("stuck", 6), 1),
    "a plus of a kept": (plus(6, about(take(1, "k", K)), num(1)), ("stuck", 6), 2),
    "a pick of a function": (pick(8, fun(1, "x", X), num(1), num(2)), ("stuck", 8), 1),
    "a pick of a kept": (pick(8, about(take(1, "k", K)), num(1), num(2)), ("stuck", 8), 2),
    "a take without a round": (take(9, "k", num(1)), ("stuck", 9), 0),
    "a take behind a round": (plus(1, about(num(1)), take(9, "k", num(1))), ("stuck", 9), 1),
    "a kept called never": (about(plus(1, num(10), take(2, "k", num(5)))), ("number", 5), 2),
    "a kept called once": (about(plus(1, num(10), take(2, "k", call(3, K, num(5))))), ("number", 15), 5),
    "a kept called twice": (
        about(plus(1, num(10), take(2, "k", call(3, K, call(4, K, num(5)))))), ("number", 25), 8),
    "a kept called in both parts": (
        about(plus(1, num(10), take(2, "k", plus(3, call(4, K, num(1)), call(5, K, num(2)))))), ("number", 23), 9),
    "a kept called behind the round": (
        call(1, about(plus(2, num(10), take(3, "k", K))), num(5)), ("number", 15), 5),
    "a kept handed on and called twice behind the round": (
        call(1, fun(2, "k", plus(3, call(4, K, num(1)), call(5, K, num(2)))), about(plus(6, take(7, "j", name("j")),
                                                                                         num(100)))),
        ("number", 203), 11),
    "what is still to be done is done later": (
        about(pick(1, take(2, "k", plus(3, call(4, K, num(0)), call(5, K, num(1)))), num(10), num(20))),
        ("number", 30), 9),
    "a round within a round": (
        about(plus(1, num(1), about(plus(2, num(10), take(3, "k", call(4, K, call(5, K, num(100)))))))),
        ("number", 121), 10),
    "a take of a round, then one of the outer round": (
        about(plus(1, num(1), about(plus(2, num(10), take(3, "k", num(5)))))), ("number", 6), 4),
    "a take behind an inner round": (
        about(plus(1, about(num(10)), take(2, "k", call(3, K, num(1))))), ("number", 11), 6),
    "a take within what a kept left": (
        about(plus(1, take(2, "k", call(3, K, num(1))), take(4, "j", call(5, name("j"), num(2))))), ("number", 3), 8),
    "a kept is called with a function": (
        about(call(1, take(2, "k", call(3, K, fun(4, "x", plus(5, X, X)))), num(21))), ("number", 42), 7),
    "a kept in itself": (about(call(1, take(2, "k", call(3, K, K)), num(3))), ("stuck", 1), 3),
    "a name bound again": (
        call(1, fun(2, "x", call(3, fun(4, "x", plus(5, X, num(1))), plus(6, X, X))), num(20)), ("number", 41), 6),
    "a name bound again, and a function that has the first": (
        call(1, call(2, call(3, fun(4, "x", fun(5, "f", fun(6, "x", plus(7, call(8, name("f"), X), X)))), num(1)),
                     call(9, fun(10, "x", fun(11, "y", plus(12, X, name("y")))), num(100))), num(1000)),
        ("number", 2100), 12),
    "a name bound again by a take": (
        call(1, fun(2, "k", about(plus(3, K, take(4, "k", call(5, K, num(1)))))), num(50)), ("number", 51), 7),
    "a take binds what a function had": (
        call(1, fun(2, "k", about(take(3, "k", K))), num(50)), ("kept", 3), 4),
    "sums above 10 ** 12": (doubling(10), ("number", (10 ** 12 - 1) * 1024), 30),
    "counting": (counted(3), ("number", 3), 25),
    "the marks may be the same": (call(1, fun(1, "x", plus(1, X, take(1, "k", K))), num(1)), ("stuck", 1), 2),
    "a kept called within another one's going on": (
        about(plus(1, num(10), take(2, "k", plus(3, call(4, K, num(1)), call(5, K, take(6, "j", call(7, J, call(
            8, K, num(100))))))))), ("number", 131), 15),
    "a kept of the frames that a kept brought": (
        about(plus(1, take(2, "k", call(3, K, num(1))), pick(4, take(5, "j", plus(6, call(7, J, num(0)), call(
            8, J, num(1)))), num(10), num(20)))), ("number", 32), 14),
    "two kepts told, one called with the other": (
        call(1, call(2, fun(3, "k", fun(4, "j", call(5, K, call(6, J, num(1))))), about(plus(7, num(10), take(
            8, "x", X)))), about(plus(9, num(100), take(10, "x", X)))), ("number", 111), 14),
    "a kept called with a kept": (
        call(1, about(call(2, take(3, "k", K), num(5))), about(call(4, fun(5, "x", take(6, "j", J)), num(1)))),
        ("number", 5), 10),
    "a kept has the name of what comes behind the round": (
        call(1, fun(2, "k", plus(3, about(plus(4, num(1), take(5, "k", call(6, K, num(2))))), K)), num(100)),
        ("number", 103), 8),
    "a kept has the name of a number that is added behind": (
        call(1, fun(2, "k", about(plus(3, take(4, "k", call(5, K, num(2))), K))), num(100)), ("number", 102), 7),
    "a kept has the name of a number that is added behind twice": (
        call(1, fun(2, "k", about(plus(3, take(4, "k", call(5, K, call(6, K, num(2)))), K))), num(100)),
        ("number", 202), 10),
    "a kept has the name of what is called behind": (
        call(1, fun(2, "k", about(call(3, take(4, "k", call(5, K, fun(6, "k", plus(7, K, num(1))))), K))), num(100)),
        ("number", 101), 9),
    "a kept has the name of what is picked behind": (
        call(1, fun(2, "k", about(pick(3, take(4, "k", plus(5, call(6, K, num(0)), call(7, K, num(1)))), K, plus(
            8, K, K)))), num(100)), ("number", 300), 12),
    "a function has the name of a number that is added behind": (
        call(1, fun(2, "x", plus(3, call(4, fun(5, "x", plus(6, X, num(1))), num(10)), X)), num(100)),
        ("number", 111), 6),
    "a function has the name of what is added in front": (
        call(1, fun(2, "x", plus(3, X, call(4, fun(5, "x", plus(6, X, num(1))), num(10)))), num(100)),
        ("number", 111), 6),
    "a function has the name of what was there where it was made": (
        call(1, call(2, fun(3, "x", fun(4, "f", call(5, fun(6, "x", call(7, name("f"), X)), num(1000)))), num(1)),
             fun(8, "y", plus(9, name("y"), num(20)))), ("number", 1020), 9),
    "a function made where its name was something else": (
        call(1, fun(2, "x", call(3, call(4, fun(5, "f", fun(6, "x", call(7, name("f"), X))), fun(
            8, "y", plus(9, X, name("y")))), num(20))), num(1)), ("number", 21), 9),
    "a take in the b of a take": (
        about(plus(1, num(10), take(2, "k", take(3, "j", call(4, K, call(5, J, num(1))))))), ("number", 11), 8),
    "a take of a take's own name": (
        about(plus(1, num(10), take(2, "k", take(3, "k", call(4, K, num(1)))))), ("number", 1), 5),
    "a take in f": (about(call(1, take(2, "k", call(3, K, fun(4, "x", plus(5, X, X)))), num(3))), ("number", 6), 7),
    "a take in a": (about(call(1, fun(2, "x", plus(3, X, X)), take(4, "k", call(5, K, num(3))))), ("number", 6), 7),
    "a round in the b of a take": (
        about(plus(1, num(10), take(2, "k", about(plus(3, num(100), take(4, "j", call(5, K, call(6, J, num(1))))))))),
        ("number", 111), 10),
    "a round in a function that is called within a round": (
        about(plus(1, num(1), call(2, fun(3, "x", about(plus(4, X, take(5, "k", X)))), num(7)))), ("number", 8), 6),
    "a take in a function that is called within a round": (
        call(1, fun(2, "f", about(plus(3, num(1), call(4, name("f"), num(7))))), fun(5, "x", take(6, "k", call(
            7, K, call(8, K, X))))), ("number", 9), 12),
    "a take in a function that is called behind the round": (
        call(1, about(fun(2, "x", take(3, "k", X))), num(7)), ("stuck", 3), 3),
    "a take in what a kept brought, behind the round": (
        call(1, about(plus(2, take(3, "k", K), take(4, "j", num(7)))), num(1)), ("number", 7), 5),
    "the sum behind a kept is stuck": (
        about(plus(1, fun(2, "x", X), take(3, "k", call(4, K, num(1))))), ("stuck", 1), 3),
    "a call behind the round is stuck": (
        call(1, about(plus(2, num(1), take(3, "k", num(4)))), num(1)), ("stuck", 1), 2),
    "a pick of a kept that was called": (
        pick(1, call(2, about(plus(3, num(-5), take(4, "k", K))), num(5)), num(10), num(20)), ("number", 10), 6),
    "sums below -10 ** 12": (
        plus(1, num(1 - 10 ** 12), plus(2, num(1 - 10 ** 12), num(-1))), ("number", 1 - 2 * 10 ** 12), 2),
    "a sum above 10 ** 12 is nought again": (
        pick(1, plus(2, plus(3, num(10 ** 12 - 1), num(10 ** 12 - 1)), plus(4, num(1 - 10 ** 12), num(1 - 10 ** 12))),
             num(10), num(20)), ("number", 10), 4),
}
