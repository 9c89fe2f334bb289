"""Points 4.3 and 4.4: the weights of draws and their chances."""

import unittest

from odds.draws import chance, flip_weights, pick_weights, uniform_weights
from odds.errors import Fault
from tests.support import Case, soon

LIMIT = 999999999


class WeightsTest(Case):

    def test_examples(self):
        self.same(flip_weights(1, 3), (1, 2))
        self.refuses(Fault, uniform_weights, 3, 2)

    def test_flip(self):
        for a, b, weights in ((0, 1, (0, 1)), (1, 1, (1, 0)), (0, 7, (0, 7)), (7, 7, (7, 0)),
                              (2, 7, (2, 5)), (1, LIMIT, (1, LIMIT - 1)), (2, 4, (2, 2)),
                              (LIMIT, LIMIT, (LIMIT, 0))):
            self.same(flip_weights(a, b), weights)

    def test_flips_that_are_not_possible(self):
        for a, b in ((0, 0), (1, 0), (-1, 0), (2, 1), (8, 7), (-1, 7), (-1, 1), (0, -1), (-1, -1),
                     (-2, -1), (-1, -2), (LIMIT, 1), (1, -LIMIT), (-LIMIT, LIMIT)):
            self.refuses(Fault, flip_weights, a, b)

    def test_uniform(self):
        for low, high, width in ((0, 0, 1), (5, 5, 1), (-5, -5, 1), (0, 1, 2), (-2, 1, 4),
                                 (-4, -2, 3), (0, 62, 63), (0, 63, 64), (-63, 0, 64), (-32, 31, 64),
                                 (LIMIT - 63, LIMIT, 64), (-LIMIT, 63 - LIMIT, 64)):
            self.same(uniform_weights(low, high), (1,) * width)

    def test_uniforms_that_are_not_possible(self):
        for low, high in ((1, 0), (0, -1), (5, -5), (LIMIT, -LIMIT), (0, 64), (-64, 0), (-32, 32),
                          (LIMIT - 64, LIMIT), (0, 1000)):
            self.refuses(Fault, uniform_weights, low, high)
        soon(self.refuses, Fault, uniform_weights, -LIMIT, LIMIT)

    def test_pick(self):
        for weights in ((1,), (LIMIT,), (0, 1), (1, 0), (0, 0, 1, 0), (3, 3), (5, 0, 2),
                        (LIMIT, LIMIT), (1,) * 65, (0,) * 100 + (2,)):
            self.same(pick_weights(weights), weights)

    def test_picks_that_are_not_possible(self):
        for weights in ((), (0,), (0, 0), (0, 0, 0), (-1,), (-1, 5), (5, -1), (5, -1, 5), (-1, -1),
                        (1, -1), (LIMIT, -LIMIT), (0,) * 100):
            self.refuses(Fault, pick_weights, weights)

    def test_chance(self):
        for weights, k, mass in (((1, 2), 0, (1, 3)), ((1, 2), 1, (2, 3)), ((2, 2), 0, (1, 2)),
                                 ((0, 5), 0, (0, 1)), ((0, 5), 1, (1, 1)), ((7,), 0, (1, 1)),
                                 ((6, 0, 4), 0, (3, 5)), ((6, 0, 4), 1, (0, 1)),
                                 ((6, 0, 4), 2, (2, 5)), ((1,) * 64, 63, (1, 64)),
                                 ((LIMIT, LIMIT, 2), 2, (1, 10 ** 9))):
            self.same(chance(weights, k), mass)


if __name__ == "__main__":
    unittest.main()
