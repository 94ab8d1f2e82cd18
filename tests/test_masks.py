"""Sets of cells as integers, and sums of such sets."""

import itertools
import unittest

from checks import CheckCase, subsets
from models import are_independent_rows, sum_of
from paritycells.masks import cells_of, mask_of, pivots_of, rank_of, reduced


class Masks(CheckCase):

    def test_there_and_back(self):
        for cells in subsets(range(6)):
            self.assertEqual(cells_of(mask_of(cells)), cells)
            self.assertEqual(mask_of(cells[::-1]), sum(2 ** cell for cell in cells))
        self.assertEqual(cells_of(mask_of(range(40))), tuple(range(40)))
        self.assertEqual([mask_of([]), cells_of(0)], [0, ()])


class Sums(CheckCase):

    def test_rank_by_its_definition(self):
        for rows in itertools.product(subsets(range(3)), repeat=4):
            best = max(len(chosen) for chosen in subsets(rows) if are_independent_rows(chosen))
            self.assertEqual(rank_of([mask_of(row) for row in rows]), best)
        self.assertEqual(rank_of([]), 0)

    def test_reduced_tells_the_sums_and_what_was_added(self):
        for rows in itertools.product(subsets(range(3)), repeat=3):
            pivots = pivots_of([mask_of(row) for row in rows])
            sums = [sum_of(chosen) for chosen in subsets(rows)]
            for cells in subsets(range(3)):
                rest, added = reduced(pivots, mask_of(cells))
                self.assertEqual(rest == 0, set(cells) in sums)
                self.assertEqual(sum_of([rows[index] for index in cells_of(added)]), set(cells) ^ set(cells_of(rest)))


if __name__ == "__main__":
    unittest.main()
