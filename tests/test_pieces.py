"""is_piece, is_closed and free_names."""

import unittest

from cutback.pieces import free_names, is_closed, is_piece
from tests.helpers import (
    HOLES, ONES, TOP, about, call, doubled, fun, in_time, kept, name, nested, num, pick, plus, shut, take,
    too_large, wide, wrong_things,
)


class IsPiece(unittest.TestCase):
    def yes(self, thing):
        self.assertIs(is_piece(thing), True, thing)

    def no(self, thing):
        self.assertIs(is_piece(thing), False, repr(thing)[:200])

    def test_each_form(self):
        for piece in ONES.values():
            self.yes(piece)

    def test_each_form_within_each(self):
        for piece in ONES.values():
            for hole in HOLES.values():
                self.yes(hole(piece))
                for outer in HOLES.values():
                    self.yes(outer(hole(piece)))

    def test_numbers(self):
        for n in (0, 1, -1, TOP, -TOP, TOP - 1, 1 - TOP):
            self.yes(num(n))
            self.yes(plus(1, num(1), num(n)))
        for n in (TOP + 1, -TOP - 1, TOP + 2, -TOP - 2, 10 ** 100):
            self.no(num(n))
            self.no(plus(1, num(1), num(n)))

    def test_marks(self):
        holes = [
            lambda at: fun(at, "x", num(1)), lambda at: call(at, num(1), num(1)), lambda at: plus(at, num(1), num(1)),
            lambda at: pick(at, num(1), num(1), num(1)), lambda at: take(at, "x", num(1)),
        ]
        for hole in holes:
            for at in (0, 1, 5000, 9998, 9999):
                self.yes(hole(at))
            for at in (-1, 10000, -9999, 10001, True, False, None, "1", 1.0):
                self.no(hole(at))

    def test_several_parts_with_the_same_mark(self):
        self.yes(plus(7, call(7, fun(7, "x", num(1)), num(1)), take(7, "x", pick(7, num(1), num(1), num(1)))))

    def test_names(self):
        for x in ("a", "z", "ab", "az", "zzzzzzzz", "abcdefgh", "round", "num"):
            self.yes(name(x))
            self.yes(fun(1, x, num(1)))
            self.yes(take(1, x, num(1)))
        for x in ("", "abcdefghi", "a" * 1000, "A", "a1", "`", "{", "a ", "a\n"):
            self.no(name(x))
            self.no(fun(1, x, num(1)))
            self.no(take(1, x, num(1)))

    def test_wrong_things(self):
        for thing in wrong_things():
            self.no(thing)

    def test_values_and_frames_are_no_pieces(self):
        for thing in (shut(1, "x", num(1)), kept(1), ("caller", 1, num(1)), ("added", 1, num(1))):
            self.no(thing)
            for hole in HOLES.values():
                self.no(hole(thing))

    def test_wrong_things_in_any_place_of_a_large_piece(self):
        good = wide(100)
        for bad in (None, ["num", 1], num(True), name("A"), plus(-1, num(1), num(1)), ("round",)):
            self.no(plus(1, good, bad))
            self.no(plus(1, bad, good))
            self.no(nested(bad, about, 28))
            self.no(nested(bad, lambda part: plus(1, part, num(1)), 28))

    def test_knots(self):
        for knots in (1, 2, 3, 4, 299, 300):
            self.yes(wide(knots))
        for knots in (301, 302, 600, 5000):
            self.no(wide(knots))

    def test_knots_of_each_form_count(self):
        for hole in HOLES.values():
            own = 1 + (str(hole(None)).count("'num'"))
            self.yes(hole(wide(300 - own)))
            self.no(hole(wide(301 - own)))

    def test_a_part_that_stands_several_times_counts_each_time(self):
        part = wide(149)
        self.yes(plus(1, part, part))
        self.yes(about(plus(1, part, part)))
        self.no(about(about(plus(1, part, part))))
        self.yes(doubled(num(1), 7))
        self.no(doubled(num(1), 8))

    def test_depth(self):
        for hole in HOLES.values():
            self.yes(nested(num(1), hole, 28))
            self.yes(nested(num(1), hole, 29))
            self.no(nested(num(1), hole, 30))
            self.no(nested(num(1), hole, 31))
            self.no(nested(num(1), hole, 85))

    def test_depth_is_that_of_the_deepest_part(self):
        deep = nested(num(1), about, 28)
        for hole in (lambda part: plus(1, part, num(1)), lambda part: plus(1, num(1), part),
                     lambda part: pick(1, num(1), part, num(1))):
            self.yes(hole(deep))
            self.no(hole(about(deep)))
        self.yes(plus(1, nested(num(1), about, 28), nested(num(1), about, 28)))

    def test_too_large(self):
        with in_time():
            for thing in too_large():
                self.assertIs(is_piece(thing), False)

    def test_deep_things_that_are_no_pieces(self):
        for deep in (nested((), lambda part: (part,), 85), nested([], lambda part: [part], 85)):
            self.no(deep)
            self.no(num(deep))
            self.no(about(deep))

    def test_a_large_thing_with_a_fault_is_told_too(self):
        with in_time():
            self.assertIs(is_piece(plus(1, doubled(num(1), 80), None)), False)
            self.assertIs(is_piece(plus(1, None, doubled(num(1), 80))), False)


class FreeNames(unittest.TestCase):
    def told(self, piece, names):
        answer = free_names(piece)
        self.assertIs(type(answer), list)
        self.assertEqual(answer, names, piece)

    def test_each_form(self):
        a, b, c = name("a"), name("b"), name("c")
        self.told(num(1), [])
        self.told(a, ["a"])
        self.told(fun(1, "x", a), ["a"])
        self.told(call(1, a, b), ["a", "b"])
        self.told(plus(1, a, b), ["a", "b"])
        self.told(pick(1, a, b, c), ["a", "b", "c"])
        self.told(about(a), ["a"])
        self.told(take(1, "x", a), ["a"])

    def test_fun_and_take_bind(self):
        for binder in (fun, take):
            self.told(binder(1, "x", name("x")), [])
            self.told(binder(1, "x", plus(1, name("x"), name("y"))), ["y"])
            self.told(binder(1, "y", binder(1, "x", plus(1, name("x"), name("y")))), [])
            self.told(binder(1, "x", binder(1, "x", name("x"))), [])
            self.told(binder(1, "x", plus(1, binder(1, "x", name("x")), name("x"))), [])
            self.told(binder(1, "x", plus(1, binder(1, "y", name("y")), plus(1, name("x"), name("y")))), ["y"])

    def test_a_name_is_bound_only_within(self):
        for binder in (fun, take):
            bound = binder(1, "x", name("x"))
            self.told(call(1, bound, name("x")), ["x"])
            self.told(call(1, name("x"), bound), ["x"])
            self.told(pick(1, bound, name("x"), bound), ["x"])
            self.told(pick(1, name("x"), bound, bound), ["x"])
            self.told(plus(1, binder(1, "x", num(1)), name("x")), ["x"])
            self.told(binder(1, "y", call(1, bound, name("x"))), ["x"])

    def test_each_once_in_the_order_of_letters(self):
        names = ["b", "aa", "z", "a", "ab", "zz", "ba", "b", "a", "z"]
        piece = num(1)
        for x in names:
            piece = plus(1, name(x), piece)
        self.told(piece, ["a", "aa", "ab", "b", "ba", "z", "zz"])

    def test_many_names_in_order(self):
        names = [first + second for first in "zxyab" for second in "qcmpz"]
        piece = num(1)
        for x in names:
            piece = plus(1, piece, name(x))
        self.told(piece, sorted(names))

    def test_deep_and_large(self):
        for hole in HOLES.values():
            self.told(nested(name("y"), hole, 29), ["y"])
        self.told(nested(name("x"), HOLES["fun"], 29), [])
        self.told(nested(name("x"), HOLES["take"], 29), [])
        self.told(doubled(name("q"), 7), ["q"])

    def test_the_list_is_the_askers_own(self):
        piece = plus(1, name("a"), name("b"))
        first = free_names(piece)
        first.append("c")
        self.told(piece, ["a", "b"])


class IsClosed(unittest.TestCase):
    def test_closed(self):
        for piece in (num(1), fun(1, "x", name("x")), take(1, "k", name("k")), about(take(1, "k", name("k"))),
                      call(1, fun(1, "x", name("x")), num(1)), wide(300), nested(num(1), about, 29)):
            self.assertIs(is_closed(piece), True, piece)

    def test_not_closed(self):
        for piece in (name("x"), fun(1, "x", name("y")), take(1, "x", name("y")), about(name("x")),
                      call(1, fun(1, "x", name("x")), name("x")), pick(1, num(0), num(1), name("a")),
                      nested(name("y"), about, 29), nested(name("y"), HOLES["fun"], 29)):
            self.assertIs(is_piece(piece), True)
            self.assertIs(is_closed(piece), False, piece)

    def test_what_is_no_piece_is_not_closed(self):
        for thing in wrong_things():
            self.assertIs(is_closed(thing), False, thing)
        with in_time():
            for thing in too_large():
                self.assertIs(is_closed(thing), False)

    def test_the_limits(self):
        self.assertIs(is_closed(num(TOP)), True)
        self.assertIs(is_closed(num(-TOP)), True)
        self.assertIs(is_closed(num(TOP + 1)), False)
        self.assertIs(is_closed(num(-TOP - 1)), False)
        self.assertIs(is_closed(wide(301)), False)
        self.assertIs(is_closed(nested(num(1), about, 30)), False)
        for at, due in ((0, True), (9999, True), (-1, False), (10000, False), (True, False)):
            self.assertIs(is_closed(fun(at, "x", num(1))), due)
        for x, due in (("a", True), ("abcdefgh", True), ("", False), ("abcdefghi", False)):
            self.assertIs(is_closed(fun(1, x, num(1))), due)


if __name__ == "__main__":
    unittest.main()
