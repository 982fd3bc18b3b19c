import itertools
import random
import unittest

from latelands.casecheck import shows_cover
from latelands.covering import cover_paper, least_cover
from tests import oracle


def covers(some, pairs):
    return all(low in some or high in some for low, high in pairs)


class CoveringTest(unittest.TestCase):

    def hold(self, pairs):
        """The least cover of some pairs, all sets tried, and the papers for it and for lesser numbers."""
        found = least_cover(pairs)
        numbers = sorted({number for pair in pairs for number in pair})
        self.assertTrue(covers(found, pairs))
        self.assertEqual(found, tuple(number for number in numbers if number in found))
        self.assertFalse(found and any(covers(some, pairs) for some in itertools.combinations(numbers, len(found) - 1)))
        papers = [cover_paper(pairs, most) for most in range(-1, len(found))]
        for most, paper in zip(range(-1, len(found)), papers):
            self.assertTrue(oracle.cover_holds(pairs, most, paper), (pairs, most, paper))
            self.assertIs(shows_cover(pairs, most, paper), True)
        return papers[-1]

    def test_many_pairs(self):
        chance = random.Random(95)
        words = []
        for _ in range(1500):
            size = chance.randint(1, 8)
            pairs = sorted({tuple(sorted((chance.randrange(size), chance.randrange(size))))
                            for _ in range(chance.randint(0, 14))})
            words.append((self.hold(pairs) or ("none",))[0])
        self.assertGreater(words.count("case"), 100)
        self.assertGreater(words.count("pairs"), 500)

    def test_rings_of_pairs(self):
        for size in range(3, 10):
            paper = self.hold([tuple(sorted((at, (at + 1) % size))) for at in range(size)])
            self.assertEqual(paper[0], "case" if size % 2 else "pairs")

    def test_sixteen_numbers(self):
        apart = [(at, at + 1) for at in range(0, 16, 2)]
        self.assertEqual(least_cover(apart), tuple(range(0, 16, 2)))
        self.assertEqual(cover_paper(apart, 7), ("pairs", tuple(apart)))
        for step in (2, 3, 5, 7):
            pairs = sorted({tuple(sorted((at, (at + move) % 16))) for at in range(16) for move in (1, step)})
            found = least_cover(pairs)
            self.assertTrue(covers(found, pairs))
            self.assertTrue(oracle.cover_holds(pairs, len(found) - 1, cover_paper(pairs, len(found) - 1)))


if __name__ == "__main__":
    unittest.main()
