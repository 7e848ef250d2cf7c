"""Equations and determinants, which several stages use."""

import random
import unittest
from fractions import Fraction
from itertools import permutations

from bandrims.base.rows import determinant, solved
from tests.test_solutions import fraction_pair


def determinant_by_words(rows):
    """The sum over all ways to take one number of each row and column, with signs."""
    found = 0
    for order in permutations(range(len(rows))):
        term = (-1) ** len([1 for k, at in enumerate(order) for other in order[k + 1:] if other < at])
        for row, at in zip(rows, order):
            term *= row[at]
        found += term
    return found


class Rows(unittest.TestCase):
    def test_determinants(self):
        source = random.Random(181)
        found = []
        for _ in range(400):
            many = source.randint(0, 5)
            rows = [[source.choice((0, 0, 1, -1, 2, 10 ** 30)) for _ in range(many)] for _ in range(many)]
            before = [list(row) for row in rows]
            found.append(determinant(rows))
            self.assertEqual(found[-1], determinant_by_words(rows))
            self.assertEqual(rows, before)
        self.assertGreater(min(found.count(0), len([one for one in found if one < 0]), len([one for one in found if one > 0])), 20)

    def test_known_determinants(self):
        for rows, told in (([], 1), ([[7]], 7), ([[0]], 0), ([[0, 1], [1, 0]], -1), ([[0, 0, 1], [1, 0, 0], [0, 1, 0]], 1),
                           (((1, 2), (2, 4)), 0)):
            self.assertEqual(determinant(rows), told)

    def test_equations(self):
        source = random.Random(182)
        several = 0
        for _ in range(200):
            many = source.randint(1, 4)
            rows = [[source.randint(-3, 3) for _ in range(many)] for _ in range(many)]
            if determinant_by_words(rows) == 0:
                continue
            several += rows[0][0] == 0
            unknowns = [Fraction(source.randint(-9, 9), source.randint(1, 5)) for _ in range(many)]
            table = [[(number, 1) for number in row] + [fraction_pair(sum([a * b for a, b in zip(row, unknowns)]))]
                     for row in rows]
            self.assertEqual(solved(table), [fraction_pair(number) for number in unknowns])
        self.assertGreater(several, 10)
