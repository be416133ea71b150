import random
import unittest

from tallyhouse.determinants import determinant, inverse_of
from tallyhouse.tables import table_product
from tests.test_lattices import determinant as by_orders
from tests.test_lattices import made_up_rows


class DeterminantsTest(unittest.TestCase):
    def test_determinants(self):
        chance = random.Random(41)
        self.assertEqual(determinant(()), 1)
        for size in range(1, 6):
            for thin in (0, 0.5, 0.7):
                rows = made_up_rows(chance, size, size, 10 ** size, thin)
                self.assertEqual(determinant(rows), by_orders(rows))
        self.assertEqual(determinant(((0, 1, 0), (0, 0, 1), (1, 0, 0))), 1)
        self.assertEqual(determinant(((0, 2), (3, 5))), -6)
        self.assertEqual(determinant(((1, 2), (2, 4))), 0)

    def test_tables_that_lead_back(self):
        chance = random.Random(43)
        self.assertEqual(inverse_of(()), ((), 1))
        for size in range(1, 6):
            for thin in (0, 0.5, 0.6):
                rows = made_up_rows(chance, size, size, 99, thin)
                if determinant(rows) != 0:
                    back, bottom = inverse_of(rows)
                    self.assertGreaterEqual(bottom, 1)
                    self.assertEqual(table_product(back, rows), tuple(tuple(bottom * (i == j) for j in range(size))
                                                                      for i in range(size)))
