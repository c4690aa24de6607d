"""Many random pieces, compared with the oracle."""

import collections
import random
import unittest

from cutback.pieces import free_names, is_closed, is_piece
from cutback.putting import by_putting, put_in, stepped, ways
from tests.helpers import HOLES, num
from tests.oracle import Chance, history, next_of, substitute

STEPS = 60


class ManyPieces(unittest.TestCase):
    @classmethod
    def setUpClass(cls):
        chance = Chance(random.Random(20261119))
        rows = [chance.closed() for _ in range(6000)]
        cls.pieces = [piece for piece in rows if is_closed(piece)]

    def test_there_are_enough_of_them(self):
        self.assertGreater(len(self.pieces), 4000)

    def test_they_come_to_the_same(self):
        kinds = collections.Counter()
        for piece in self.pieces:
            rows, due = history(piece, STEPS)
            self.assertEqual(ways(piece, STEPS), rows)
            self.assertEqual(by_putting(piece, STEPS), due)
            kinds[due[0], min(len(rows), 8)] += 1
        # The comparison says little unless the pieces come to all kinds of ends.
        for kind in ("number", "function", "kept", "stuck"):
            self.assertGreater(kinds[kind, 8], 10, kinds)

    def test_with_less_fuel(self):
        for piece in self.pieces[:400]:
            rows, _ = history(piece, STEPS)
            for fuel in range(min(len(rows) + 2, 30)):
                less, due = history(piece, fuel)
                self.assertEqual(ways(piece, fuel), less)
                self.assertEqual(by_putting(piece, fuel), due)

    def test_each_step(self):
        for piece in self.pieces[:1000]:
            for row in history(piece, STEPS)[0]:
                self.assertEqual(stepped(row), next_of(row))

    def test_put_in(self):
        value = ("shut", 1, "x", ("name", "x"))
        for piece in self.pieces[:1000]:
            for row in history(piece, 20)[0]:
                for part in parts_within(row):
                    for x in ("x", "k"):
                        self.assertEqual(put_in(part, x, value), substitute(part, x, value))

    def test_free_names(self):
        for piece in self.pieces[:1000]:
            for part in parts_within(piece):
                self.assertTrue(is_piece(part))
                due = [x for x in sorted(Chance.NAMES) if substitute(part, x, num(0)) != substitute(part, x, num(1))]
                self.assertEqual(free_names(part), due)
                self.assertEqual(is_closed(part), not due)
                for hole in HOLES.values():
                    self.assertEqual(is_closed(hole(part)), is_closed_within(hole, part))


def parts_within(piece):
    """A running piece and all that stand in it, but for what stands within values."""
    rows = [piece]
    for row in rows:
        if row[0] not in ("num", "shut", "kept"):
            rows.extend(part for part in row[1:] if isinstance(part, tuple))
    return rows


def is_closed_within(hole, part):
    whole = hole(part)
    binds = whole[0] in ("fun", "take")
    return is_piece(whole) and not [x for x in free_names(part) if not (binds and x == whole[2])]


if __name__ == "__main__":
    unittest.main()
