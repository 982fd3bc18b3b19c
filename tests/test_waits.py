import random
import unittest

from latelands.waits import lightest_ring, lightest_wait, rows_waited_in
from tests import oracle
from tests.helpers import code_of


def all_waits(code, rows, count):
    """All waits of so many of these rows."""
    found = [(row,) for row in rows]
    for _ in range(count - 1):
        found = [wait + (row,) for wait in found for row in oracle.next_rows(code, wait[-1]) if row in rows]
    return found


def weight(rows, heavy):
    return len([row for row in rows if row in heavy])


class WaitsTest(unittest.TestCase):

    def test_the_lightest_of_all(self):
        chance = random.Random(96)
        rings = 0
        for _ in range(400):
            size = chance.randint(2, 6)
            code = code_of(" / ".join(f"go {chance.randint(0, size)} c" if chance.random() < 0.7 else "-"
                                      for _ in range(size)))
            self.assertEqual(rows_waited_in(code), oracle.rows_waited_in(code))
            rows = [row for row in rows_waited_in(code) if chance.random() < 0.9]
            heavy = [row for row in rows if chance.random() < 0.5]
            for count in range(1, 5):
                waits = all_waits(code, rows, count)
                if waits:
                    told = lightest_wait(code, rows, heavy, count)
                    self.assertIn(told, waits)
                    self.assertEqual(weight(told, heavy), min(weight(wait, heavy) for wait in waits))
            known = [wait for count in range(1, size + 1) for wait in all_waits(code, rows, count)
                     if len(set(wait)) == count and wait[0] in oracle.next_rows(code, wait[-1])]
            if known:
                rings += 1
                told = lightest_ring(code, rows, heavy)
                self.assertIn(told, known)
                self.assertEqual(weight(told, heavy), min(weight(ring, heavy) for ring in known))
        self.assertGreater(rings, 100)


if __name__ == "__main__":
    unittest.main()
