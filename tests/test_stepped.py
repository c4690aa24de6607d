"""stepped."""

import unittest

from cutback.putting import stepped
from tests.helpers import (
    about, call, fun, kept, name, nested, num, pick, plus, same, shut, take,
)

K = name("k")
X = name("x")
ID = shut(8, "x", X)
KEPT = kept(9, ("adder", 3, num(1)))
LATER = call(60, fun(61, "x", X), num(1))
VALUES = [num(0), num(5), num(10 ** 13), ID, shut(8, "x", plus(1, X, num(2))), kept(9), KEPT]

# Each frame of point 6, and what a piece with that frame about it is.
FRAMES = [
    (("caller", 40, LATER), lambda part: call(40, part, LATER)),
    (("caller", 40, num(3)), lambda part: call(40, part, num(3))),
    (("given", 41, ID), lambda part: call(41, ID, part)),
    (("given", 41, num(1)), lambda part: call(41, num(1), part)),
    (("adder", 42, LATER), lambda part: plus(42, part, LATER)),
    (("adder", 42, num(3)), lambda part: plus(42, part, num(3))),
    (("added", 43, num(4)), lambda part: plus(43, num(4), part)),
    (("added", 43, KEPT), lambda part: plus(43, KEPT, part)),
    (("picker", 44, LATER, num(2)), lambda part: pick(44, part, LATER, num(2))),
    (("picker", 44, num(2), LATER), lambda part: pick(44, part, num(2), LATER)),
]
ROUND = (("round",), about)

# What stands at the place, and what one step makes of it; none of these hangs on frames.
STEPS = [
    (fun(1, "x", X), shut(1, "x", X)),
    (fun(0, "y", LATER), shut(0, "y", LATER)),
    (call(1, shut(2, "x", X), num(3)), num(3)),
    (call(1, shut(2, "x", num(9)), ID), num(9)),
    (call(1, shut(2, "x", plus(3, X, X)), num(4)), plus(3, num(4), num(4))),
    (call(1, shut(2, "x", call(3, X, X)), KEPT), call(3, KEPT, KEPT)),
    (call(1, shut(2, "x", fun(3, "x", X)), num(4)), fun(3, "x", X)),
    (call(1, shut(2, "x", take(3, "x", X)), num(4)), take(3, "x", X)),
    (call(1, shut(2, "x", fun(3, "y", X)), num(4)), fun(3, "y", num(4))),
    (call(1, shut(2, "x", plus(3, X, shut(4, "y", X))), num(4)), plus(3, num(4), shut(4, "y", X))),
    (call(1, kept(2), num(3)), about(num(3))),
    (call(1, kept(2), ID), about(ID)),
    (call(1, kept(2, ("adder", 3, num(4))), num(5)), about(plus(3, num(5), num(4)))),
    (call(1, kept(2, ("added", 3, num(4))), num(5)), about(plus(3, num(4), num(5)))),
    (call(1, kept(2, ("caller", 3, LATER)), num(5)), about(call(3, num(5), LATER))),
    (call(1, kept(2, ("given", 3, ID)), num(5)), about(call(3, ID, num(5)))),
    (call(1, kept(2, ("picker", 3, LATER, num(1))), num(5)), about(pick(3, num(5), LATER, num(1)))),
    (call(1, kept(2, ("round",)), num(5)), about(about(num(5)))),
    (call(1, kept(2, ("adder", 3, num(4)), ("added", 5, num(6)), ("given", 7, ID)), num(8)),
     about(call(7, ID, plus(5, num(6), plus(3, num(8), num(4)))))),
    (call(1, kept(2, ("adder", 3, num(4)), ("round",), ("added", 5, num(6))), KEPT),
     about(plus(5, num(6), about(plus(3, KEPT, num(4)))))),
    (plus(1, num(2), num(3)), num(5)),
    (plus(1, num(-2), num(2)), num(0)),
    (plus(1, num(10 ** 12 - 1), num(10 ** 12 - 1)), num(2 * 10 ** 12 - 2)),
    (plus(1, num(10 ** 30), num(10 ** 30)), num(2 * 10 ** 30)),
    (plus(1, num(-10 ** 12), num(-1)), num(-10 ** 12 - 1)),
    (pick(1, num(0), num(2), num(3)), num(2)),
    (pick(1, num(1), num(2), num(3)), num(3)),
    (pick(1, num(-1), num(2), num(3)), num(3)),
    (pick(1, num(10 ** 20), num(2), LATER), LATER),
    (pick(1, num(0), LATER, num(2)), LATER),
    (pick(1, num(0), ID, take(2, "x", X)), ID),
    (about(num(3)), num(3)),
    (about(ID), ID),
    (about(KEPT), KEPT),
]

# What is stuck at its place with or without a round among the frames, and its mark.
STUCK = [(call(11, num(f), a), 11) for f in (0, 1, -1) for a in VALUES]
STUCK += [(plus(12, a, b), 12) for a in VALUES for b in VALUES if (a[0], b[0]) != ("num", "num")]
STUCK += [(pick(13, c, num(1), LATER), 13) for c in VALUES if c[0] != "num"]
STUCK += [(plus(0, ID, num(1)), 0), (call(9999, num(1), num(1)), 9999)]


def filled(frames, part):
    """A part with frames about it, the nearest first."""
    for _, hole in frames:
        part = hole(part)
    return part


class Stepped(unittest.TestCase):
    def told(self, piece, word, due):
        answer = stepped(piece)
        self.assertIs(type(answer), tuple)
        self.assertEqual(answer, (word, due), piece)

    def test_values(self):
        for value in VALUES:
            self.told(value, "value", value)

    def test_each_row(self):
        for place, due in STEPS:
            self.told(place, "step", due)

    def test_each_row_in_each_frame(self):
        for place, due in STEPS:
            for one in FRAMES + [ROUND]:
                self.told(filled([one], place), "step", filled([one], due))
                for two in FRAMES + [ROUND]:
                    self.told(filled([one, two], place), "step", filled([one, two], due))

    def test_stuck(self):
        for place, at in STUCK:
            self.told(place, "stuck", at)
            for one in FRAMES + [ROUND]:
                self.told(filled([one], place), "stuck", at)
                for two in FRAMES + [ROUND]:
                    self.told(filled([one, two], place), "stuck", at)

    def test_a_take_without_a_round(self):
        for piece in (take(21, "k", K), take(21, "k", num(1)), take(21, "k", take(22, "k", K))):
            self.told(piece, "stuck", 21)
            for one in FRAMES:
                self.told(filled([one], piece), "stuck", 21)
                for two in FRAMES:
                    self.told(filled([one, two], piece), "stuck", 21)

    def test_a_round_that_is_not_about_the_take(self):
        self.told(plus(1, take(21, "k", K), about(num(1))), "stuck", 21)
        self.told(call(1, kept(2, ("round",)), take(21, "k", K)), "stuck", 21)
        self.told(pick(1, take(21, "k", K), about(num(1)), about(num(2))), "stuck", 21)

    def test_a_take_right_in_a_round(self):
        self.told(about(take(1, "k", K)), "step", about(kept(1)))
        self.told(about(take(1, "k", num(2))), "step", about(num(2)))
        self.told(about(take(1, "k", call(2, K, K))), "step", about(call(2, kept(1), kept(1))))
        self.told(about(take(1, "k", fun(2, "k", K))), "step", about(fun(2, "k", K)))
        self.told(about(take(1, "k", take(2, "k", K))), "step", about(take(2, "k", K)))
        self.told(about(take(1, "k", take(2, "j", K))), "step", about(take(2, "j", kept(1))))

    def test_a_take_behind_each_frame(self):
        for frame, hole in FRAMES:
            self.told(about(hole(take(1, "k", K))), "step", about(kept(1, frame)))
            self.told(about(hole(take(1, "k", num(2)))), "step", about(num(2)))
            for further, outer in FRAMES:
                piece = about(outer(hole(take(1, "k", call(2, K, num(1))))))
                self.told(piece, "step", about(call(2, kept(1, frame, further), num(1))))

    def test_only_the_nearest_round(self):
        for frame, hole in FRAMES:
            for _, outer in FRAMES + [ROUND]:
                piece = about(outer(about(hole(take(1, "k", K)))))
                self.told(piece, "step", about(outer(about(kept(1, frame)))))
                self.told(outer(about(hole(take(1, "k", K)))), "step", outer(about(kept(1, frame))))

    def test_a_take_within_what_a_kept_becomes(self):
        piece = call(1, kept(2, ("adder", 3, take(4, "k", K))), num(5))
        self.told(piece, "step", about(plus(3, num(5), take(4, "k", K))))
        self.told(about(plus(3, num(5), take(4, "k", K))), "step", about(kept(4, ("added", 3, num(5)))))

    def test_from_the_left_values_first(self):
        one = fun(1, "x", X)
        two = fun(2, "x", X)
        three = fun(3, "x", X)
        self.told(call(5, one, two), "step", call(5, shut(1, "x", X), two))
        self.told(call(5, ID, two), "step", call(5, ID, shut(2, "x", X)))
        self.told(call(5, num(1), two), "step", call(5, num(1), shut(2, "x", X)))
        self.told(plus(5, one, two), "step", plus(5, shut(1, "x", X), two))
        self.told(plus(5, ID, two), "step", plus(5, ID, shut(2, "x", X)))
        self.told(pick(5, one, two, three), "step", pick(5, shut(1, "x", X), two, three))
        self.told(pick(5, num(0), two, three), "step", two)
        self.told(pick(5, num(7), two, three), "step", three)
        self.told(plus(5, plus(6, num(1), num(2)), plus(7, num(3), num(4))), "step",
                  plus(5, num(3), plus(7, num(3), num(4))))

    def test_nothing_is_done_in_the_b_of_a_fun_or_a_take(self):
        self.told(fun(1, "x", LATER), "step", shut(1, "x", LATER))
        self.told(about(take(1, "x", LATER)), "step", about(LATER))
        self.told(shut(1, "x", LATER), "value", shut(1, "x", LATER))
        self.told(kept(1, ("adder", 2, LATER)), "value", kept(1, ("adder", 2, LATER)))

    def test_within_values_nothing_is_put_in(self):
        inner = shut(3, "y", plus(4, X, name("y")))
        self.told(call(1, shut(2, "x", call(5, inner, X)), num(6)), "step", call(5, inner, num(6)))
        held = kept(3, ("adder", 4, X))
        self.told(about(take(1, "x", call(5, held, X))), "step", about(call(5, held, kept(1))))


class Deep(unittest.TestCase):
    DEPTH = 1800

    def told(self, piece, word, due):
        answer = stepped(piece)
        self.assertEqual(answer[0], word)
        self.assertEqual(len(answer), 2)
        self.assertTrue(same(answer[1], due))

    def test_a_place_so_deep_in_each_frame(self):
        for _, hole in FRAMES + [ROUND]:
            for place, due in (STEPS[0], STEPS[4], STEPS[18], STEPS[20], STEPS[25], STEPS[31]):
                self.told(nested(place, hole, self.DEPTH), "step", nested(due, hole, self.DEPTH))
            self.told(nested(plus(11, ID, ID), hole, self.DEPTH), "stuck", 11)

    def test_a_place_so_deep_in_frames_of_all_kinds(self):
        rows = (FRAMES + [ROUND]) * 164
        for place, due in STEPS:
            self.told(filled(rows, place), "step", filled(rows, due))
        for place, at in STUCK:
            self.told(filled(rows, place), "stuck", at)

    def test_a_take_so_deep(self):
        for frame, hole in FRAMES:
            deep = nested(take(1, "k", call(2, K, num(3))), hole, self.DEPTH)
            self.told(deep, "stuck", 1)
            self.told(about(deep), "step", about(call(2, kept(1, *[frame] * self.DEPTH), num(3))))
            self.told(nested(about(deep), hole, 3), "step",
                      nested(about(call(2, kept(1, *[frame] * self.DEPTH), num(3))), hole, 3))

    def test_a_round_so_far_out_and_one_so_near(self):
        frame, hole = FRAMES[4]
        near = nested(about(hole(take(1, "k", K))), hole, self.DEPTH)
        self.told(near, "step", nested(about(kept(1, frame)), hole, self.DEPTH))
        rows = FRAMES * 180
        self.told(about(filled(rows, take(1, "k", K))), "step", about(kept(1, *[frame for frame, _ in rows])))

    def test_a_kept_with_so_many_frames(self):
        rows = FRAMES * 180
        value = kept(1, *[frame for frame, _ in rows])
        self.told(value, "value", value)
        self.told(call(2, value, num(3)), "step", about(filled(rows, num(3))))
        self.told(plus(5, num(1), call(2, value, ID)), "step", plus(5, num(1), about(filled(rows, ID))))
        within = rows + [ROUND] + rows
        value = kept(1, *[frame for frame, _ in within])
        self.told(call(2, value, num(3)), "step", about(filled(within, num(3))))

    def test_what_does_not_stand_about_the_place_may_be_deep(self):
        deep = nested(LATER, lambda part: plus(1, part, num(1)), self.DEPTH)
        self.told(plus(1, plus(2, num(1), num(2)), deep), "step", plus(1, num(3), deep))
        self.told(pick(1, num(0), deep, num(1)), "step", deep)
        self.told(pick(1, num(1), num(1), deep), "step", deep)
        value = shut(1, "x", deep)
        self.told(call(1, ID, value), "step", value)
        self.told(about(value), "step", value)


if __name__ == "__main__":
    unittest.main()
