import itertools
import random
import unittest

from latelands.casecheck import shows_least
from latelands.codes import Code
from latelands.errors import Clash, TooMany
from latelands.judge import bad_gaps, bad_pairs, judge
from latelands.judgecheck import shows_change, shows_open
from latelands.landings import clash
from latelands.shut import least_shut
from latelands.values import first_change
from latelands.ways import points
from tests import oracle
from tests.helpers import (A, D, GOALS_800, GOALS_801, L, ROUND, THREE, TWO, clashing, jumping, straight, tied, tied_loop,
                           wide)


def codes(seed, many):
    chance = random.Random(seed)
    found = oracle.random_codes(seed, many // 2) + [oracle.random_tied(chance) for _ in range(many // 2)]
    found = [code for code in found if clash(code) is None]
    return [A, D, L, ROUND, tied(TWO), tied(THREE)] + [code for code in found if len(list(points(code))) <= 120]


class ShutTest(unittest.TestCase):

    def test_the_examples(self):
        self.assertEqual([least_shut(A)[0], least_shut(D)[0]], [(3,), (1,)])
        self.assertEqual(least_shut(code=A), least_shut(A))

    def hold(self, code):
        """What least_shut tells of a code, all sets of gaps tried. Returns the number of shut gaps."""
        shut, paper = least_shut(code)
        self.assertEqual(list(shut), [gap for gap in code.gaps if gap in shut])
        must = {gap for gap in bad_gaps(code)} | {low for low, high in bad_pairs(code) if low == high}
        pairs = [set(pair) for pair in bad_pairs(code)]

        def enough(some):
            return must <= set(some) and all(pair & set(some) for pair in pairs)

        self.assertTrue(enough(shut))
        if len(code.gaps) < 12:
            self.assertFalse(any(enough(some) for some in itertools.combinations(code.gaps, len(shut) - 1))
                             if shut else False)
        self.hold_paper(code, shut, paper)
        return len(shut)

    def hold_paper(self, code, shut, paper):
        """Each of the three parts of the paper."""
        harmless, changes, cover = paper
        others = tuple(gap for gap in code.gaps if gap not in shut)
        self.assertTrue(harmless[0] == "open" and shows_open(code, others, harmless))
        for gaps, change in changes:
            self.assertTrue(gaps[0] <= gaps[1] and shows_change(code, gaps, change))
        self.assertTrue(oracle.cover_holds([gaps for gaps, _ in changes], len(shut) - 1, cover))
        self.assertIs(shows_least(code, shut, paper), True)

    def test_many_codes(self):
        found = [self.hold(code) for code in codes(71, 300)]
        self.assertGreater(len([shut for shut in found if shut > 1]), 20)
        self.assertGreater(found.count(0), 20)

    def test_no_bad_gap(self):
        code = straight("alike r s / r = move s / send r")
        shut, (harmless, changes, cover) = least_shut(code)
        self.assertEqual((shut, changes, cover), ((), (), None))
        self.assertEqual(harmless, judge(code, 0, 1))

    def test_bad_gaps_alone(self):
        self.assertEqual(bad_pairs(D), ())
        self.assertEqual(least_shut(D)[1], (judge(D, 0, 2), (((1, 1), judge(D, 1)),), ("pairs", ((1, 1),))))

    def test_bad_pairs_of_one_gap_with_itself(self):
        self.assertIn((0, 0), bad_pairs(L))
        shut, (harmless, changes, cover) = least_shut(L)
        self.assertIn(0, shut)
        self.assertEqual(changes[0], ((0, 0), judge(L, 0)))
        self.assertEqual(len(changes[0][1][2]), 2)

    def test_pairs_that_share_gaps(self):
        # No two of the pairs of A are apart, but one gap is in both.
        self.assertEqual(least_shut(A)[1][2], ("pairs", ((1, 3),)))
        # Here pairs that are apart are not enough to show it.
        self.assertEqual(bad_gaps(ROUND), (0,))
        shut, (harmless, changes, cover) = least_shut(ROUND)
        self.assertEqual((len(shut), cover[0]), (4, "case"))
        self.hold(ROUND)

    def test_sixteen_gaps_in_pairs_and_seventeen(self):
        code = tied(*[TWO] * 8)
        self.assertEqual(len({gap for pair in bad_pairs(code) for gap in pair}), 16)
        self.assertEqual(self.hold(code), 8)
        self.assertEqual(self.hold(tied(*[TWO] * 5 + [THREE] * 2)), 7)
        for code in (tied(*[TWO] * 7 + [THREE]), tied(*[TWO] * 9), tied(*[THREE] * 6)):
            self.assertGreater(len({gap for pair in bad_pairs(code) for gap in pair}), 16)
            with self.assertRaises(TooMany) as caught:
                least_shut(code)
            self.assertEqual(caught.exception.most, 16)

    def test_pairs_of_a_gap_that_must_be_shut_do_not_count(self):
        code = tied_loop(7)
        self.assertEqual(bad_pairs(code)[7:], ((29, 29), (29, 32), (29, 33), (32, 33)))
        self.assertEqual(len({gap for pair in bad_pairs(code) for gap in pair}), 17)
        self.assertEqual(self.hold(code), 9)
        self.assertNotIn((29, 32), [gaps for gaps, _ in least_shut(code)[1][1]])
        self.assertRaises(TooMany, least_shut, tied_loop(8))
        code = tied_loop(7, turned=True)
        self.assertEqual(bad_pairs(code)[7:], ((30, 31), (30, 32), (31, 32), (32, 32)))
        self.assertEqual(self.hold(code), 9)
        self.assertNotIn((30, 32), [gaps for gaps, _ in least_shut(code)[1][1]])

    def test_seventeen_gaps_that_are_bad_alone(self):
        code = straight(" / ".join(["r = slow ; send r"] * 20))
        self.assertEqual(len(bad_gaps(code)), 19)
        self.assertEqual(least_shut(code)[0], tuple(range(1, 20)))
        self.hold(code)

    def test_with_these_gaps_shut_nothing_changes(self):
        for code in codes(72, 60)[:40]:
            shut = least_shut(code)[0]
            for way in oracle.ways_of(code, 6)[:8]:
                moments = [moment for moment in oracle.moments(code, way) if way[moment] not in shut]
                for many in range(len(moments) + 1):
                    for breaks in itertools.combinations(moments, many):
                        self.assertIs(first_change(code, way, breaks), None)

    def test_errors_in_their_order(self):
        for code in (jumping(GOALS_801), clashing(GOALS_801, 3)):
            with self.assertRaises(TooMany) as caught:
                least_shut(code)
            self.assertEqual(caught.exception.most, 800)
        # A clash comes ahead of too many gaps in pairs.
        for code in (clashing(GOALS_800, 4), tied(*[TWO] * 9, "r = move s", "-", "r = hold s")):
            with self.assertRaises(Clash) as caught:
                least_shut(code)
            self.assertEqual((caught.exception.way, caught.exception.name), clash(code))

    def test_forty_rows_and_nearly_eight_hundred_points(self):
        for code in (wide(), wide(13)):
            shut, paper = least_shut(code)
            self.hold_paper(code, shut, paper)
        self.assertEqual(least_shut(wide())[0], ())
        code = tied(*[TWO] * 8, *["send r ; send s"] * 8)
        self.assertEqual((len(code), self.hold(code)), (40, 8))

    def test_what_is_passed_stays_as_it_was(self):
        code = Code.of(A.machine, A.rows, alike=A.alike)
        self.assertEqual(least_shut(code), least_shut(code))
        self.assertEqual((code, str(code)), (A, str(A)))


if __name__ == "__main__":
    unittest.main()
