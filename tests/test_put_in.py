"""put_in."""

import copy
import unittest

from cutback.putting import put_in
from tests.helpers import (
    HOLES, about, call, fun, kept, name, nested, num, pick, plus, same, shut, take,
)

X = name("x")
Y = name("y")
V = num(7)

# Values with the name standing in them, each as free as a value can have it.
FULL = [
    num(3),
    shut(1, "x", X),
    shut(1, "y", plus(1, X, Y)),
    shut(1, "x", fun(2, "y", X)),
    kept(1),
    kept(1, ("adder", 2, X)),
    kept(1, ("caller", 2, X), ("given", 3, shut(4, "x", X)), ("added", 5, shut(4, "y", X))),
    kept(1, ("picker", 2, X, plus(3, X, X)), ("round",)),
    kept(1, ("added", 2, kept(3, ("adder", 4, X)))),
]


class PutIn(unittest.TestCase):
    def told(self, piece, due, x="x", value=V):
        before = copy.deepcopy(piece)
        self.assertEqual(put_in(piece, x, value), due)
        self.assertEqual(piece, before)

    def test_names(self):
        self.told(X, V)
        self.told(Y, Y)
        self.told(name("xx"), name("xx"))
        self.told(name("xy"), V, x="xy")

    def test_each_form(self):
        self.told(num(1), num(1))
        self.told(fun(1, "y", X), fun(1, "y", V))
        self.told(call(1, X, Y), call(1, V, Y))
        self.told(call(1, Y, X), call(1, Y, V))
        self.told(call(1, X, X), call(1, V, V))
        self.told(plus(1, X, Y), plus(1, V, Y))
        self.told(plus(1, Y, X), plus(1, Y, V))
        self.told(plus(1, X, X), plus(1, V, V))
        self.told(pick(1, X, Y, Y), pick(1, V, Y, Y))
        self.told(pick(1, Y, X, Y), pick(1, Y, V, Y))
        self.told(pick(1, Y, Y, X), pick(1, Y, Y, V))
        self.told(pick(1, X, X, X), pick(1, V, V, V))
        self.told(about(X), about(V))
        self.told(take(1, "y", X), take(1, "y", V))

    def test_marks_and_names_stay(self):
        self.told(fun(12, "y", call(34, X, Y)), fun(12, "y", call(34, V, Y)))
        self.told(take(0, "z", pick(9999, X, plus(5, X, Y), about(X))),
                  take(0, "z", pick(9999, V, plus(5, V, Y), about(V))))

    def test_each_value(self):
        for value in FULL:
            self.told(X, value, value=value)
            self.told(plus(1, X, fun(2, "y", X)), plus(1, value, fun(2, "y", value)), value=value)

    def test_where_a_fun_or_a_take_binds_the_name_again(self):
        for binder in (fun, take):
            self.told(binder(1, "x", X), binder(1, "x", X))
            self.told(binder(1, "x", binder(1, "y", X)), binder(1, "x", binder(1, "y", X)))
            self.told(binder(1, "y", binder(1, "x", X)), binder(1, "y", binder(1, "x", X)))
            self.told(call(1, binder(1, "x", X), X), call(1, binder(1, "x", X), V))
            self.told(call(1, X, binder(1, "x", X)), call(1, V, binder(1, "x", X)))
            self.told(binder(1, "y", plus(1, X, binder(2, "x", plus(2, X, Y)))),
                      binder(1, "y", plus(1, V, binder(2, "x", plus(2, X, Y)))))

    def test_within_values_nothing_is_put_in(self):
        for value in FULL:
            self.told(value, value)
            for word, hole in HOLES.items():
                inner = hole(value)
                self.told(inner, inner)
            self.told(plus(1, value, X), plus(1, value, V))
            self.told(pick(1, X, value, about(call(2, value, X))), pick(1, V, value, about(call(2, value, V))))
            self.told(fun(1, "y", plus(1, value, X)), fun(1, "y", plus(1, value, V)))

    def test_nothing_is_put_into_what_was_put_in(self):
        value = shut(1, "y", plus(1, X, Y))
        self.told(plus(1, X, plus(2, Y, X)), plus(1, value, plus(2, Y, value)), value=value)
        once = put_in(plus(1, X, Y), "x", value)
        self.assertEqual(put_in(once, "y", V), plus(1, value, V))

    def test_a_name_of_a_word(self):
        self.told(plus(1, name("plus"), name("name")), plus(1, V, name("name")), x="plus")
        self.told(plus(1, name("plus"), name("name")), plus(1, name("plus"), V), x="name")
        self.told(call(1, X, about(X)), call(1, X, about(X)), x="call")

    def test_deep(self):
        for word, hole in HOLES.items():
            binder = word in ("fun", "take")
            self.told(nested(X, hole, 99), nested(X if binder else V, hole, 99))
            self.told(nested(Y, hole, 99), nested(V, hole, 99), x="y")

    def test_values_may_be_deep(self):
        deep = kept(1, ("adder", 2, nested(X, HOLES["plus a"], 1800)))
        body = shut(1, "x", nested(X, HOLES["round"], 1800))
        for value in (deep, body, kept(1, *[("adder", 2, X)] * 1800)):
            self.assertTrue(same(put_in(plus(1, value, X), "x", V), plus(1, value, V)))
            self.assertTrue(same(put_in(plus(1, Y, X), "x", value), plus(1, Y, value)))

    def test_numbers_of_any_size(self):
        self.told(plus(1, X, num(10 ** 50)), plus(1, num(-10 ** 60), num(10 ** 50)), value=num(-10 ** 60))


if __name__ == "__main__":
    unittest.main()
