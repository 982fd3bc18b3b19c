import itertools
import random
import unittest

from latelands.errors import Clash, HeldGap, NoRow, TooMany
from latelands.judge import bad_gaps, bad_pairs, judge
from latelands.judgecheck import shows_change, shows_open
from latelands.landings import clash
from latelands.ways import points
from tests import oracle
from tests.helpers import (A, D, GOALS_800, GOALS_801, L, ROUND, TWO, clashing, jumping, nested, odd_values, spoilt,
                           straight, tied, twisted, wide)

P = (0, 1, 2, 3)


def codes(seed, many, most_points=60):
    chance = random.Random(seed)
    found = oracle.random_codes(seed, many // 2) + [oracle.random_tied(chance) for _ in range(many // 2)]
    found = [code for code in found if clash(code) is None]
    return [A, D, L, ROUND] + [code for code in found if len(list(points(code))) <= most_points]


class ChangeTest(unittest.TestCase):

    def test_the_examples(self):
        shown = [shows_change(A, [1, 3], judge(A, 1, 3)), shows_change(A, [3], judge(A, 1, 3)),
                 shows_open(A, (1, 2), judge(A, 1, 2)), shows_open(A, (1, 2, 3), judge(A, 1, 2))]
        self.assertEqual(shown, [True, False, True, False])

    def test_what_judge_tells(self):
        words = []
        for code in codes(61, 120):
            for gaps in [()] + [(gap,) for gap in code.gaps] + list(itertools.combinations(code.gaps, 2)) + [code.gaps]:
                paper = judge(code, *gaps)
                words.append(paper[0])
                for some in (gaps, list(gaps), gaps[::-1] + gaps):
                    self.assertIs(shows_change(code=code, gaps=some, paper=paper), paper[0] == "changes")
                    self.assertIs(shows_open(code=code, gaps=some, paper=paper), paper[0] == "open")
        self.assertGreater(words.count("changes"), 300)
        self.assertGreater(words.count("open"), 300)

    def test_all_ways_and_breaks(self):
        shown = 0
        for code in codes(62, 24):
            for way in oracle.ways_of(code, 5)[:8]:
                moments = oracle.moments(code, way)
                for breaks in [(moment,) for moment in moments] + list(itertools.combinations(moments, 2)):
                    change = oracle.first_change(code, way, breaks)
                    gaps = {way[moment] for moment in breaks}
                    for some in (code.gaps, tuple(gaps)):
                        self.assertIs(shows_change(code, some, ("changes", way, breaks, change)), change is not None)
                        self.assertIs(shows_change(code, some, ("changes", way, breaks, None)), False)
                        self.assertIs(shows_change(code, some, ("changes", way, breaks, (4, 0, 0))), change == (4, 0, 0))
                    less = tuple(gap for gap in code.gaps if gap != way[breaks[0]])
                    self.assertIs(shows_change(code, less, ("changes", way, breaks, change)), False)
                    shown += change is not None
        self.assertGreater(shown, 15)

    def test_ways_that_are_longer_and_go_on(self):
        for way, breaks, change in [(P, (1,), (1, 0, 0)), (P * 3, (1,), (1, 0, 0)), (P * 3 + (0, 1), (5,), (5, 0, 0)),
                                    (P * 3, (5, 9), (5, 0, 0)), (P * 3, (5, 6), (5, 0, 0)), (P * 3, (2, 5), (5, 0, 0)),
                                    (P * 400, (1201, 1205), (1201, 0, 0))]:
            self.assertIs(shows_change(D, (0, 1, 2), ("changes", way, breaks, change)), True)
            # Breaks that are moved, added, left out, or none; another change; a way that is too short or none.
            for some in [(way, breaks + (breaks[-1] + 1,), change), (way, (breaks[0] + 1,), change), (way, (), change),
                         (way, breaks, (change[0] + 4, 0, 0)), (way, breaks, (change[0], 0, 1)), (way, breaks, None),
                         (way[:change[0]], breaks, change), (way[1:], breaks, change), (way, (1, 4, 5), (1, 0, 0)),
                         (way, breaks[::-1] + breaks, change), (way, (len(way),), change), (way, (3,), change)]:
                if some[1:] != ((5, 6), (5, 0, 0)) and some[1:] != ((1, 2), (1, 0, 0)):
                    self.assertIs(shows_change(D, (0, 1, 2), ("changes",) + some), False, some)

    def test_breaks_at_other_gaps(self):
        paper = judge(A, 1, 3)
        for gaps, right in [((1, 3), True), ((3, 1, 1), True), ([0, 1, 2, 3], True), ((1,), False), ((), False), ((2, 3), False)]:
            self.assertIs(shows_change(A, gaps, paper), right)

    def test_lists_for_tuples_and_true_for_one(self):
        for code, gaps in ((A, (1, 3)), (D, (1,)), (L, (0,))):
            for some in twisted(judge(code, *gaps)):
                self.assertIs(shows_change(code, gaps, some), False, some)
        for some in twisted(judge(A, 0, 1, 2)):
            self.assertIs(shows_open(A, (0, 1, 2), some), False, some)
        for some in twisted(judge(D, 0, 2)):
            self.assertIs(shows_open(D, (0, 2), some), False, some)

    def test_papers_that_are_spoilt(self):
        for some in spoilt(judge(A, 1, 3)):
            right = some == ("changes", P, (1, 3), (3, 0, 0)) or some == ("changes", P, (2, 3), (3, 0, 0))
            self.assertIs(shows_change(A, (1, 2, 3), some), right, some)

    def test_values_that_are_no_papers(self):
        for paper in (judge(A, 1, 3), judge(A, 0, 1, 2)):
            for value in odd_values() + [nested(1, 200), nested(paper, 100), paper[:-1], paper + (1,), list(paper), (paper,),
                                         ("changes",), ("open",), "open", "changes", ("open", (), ()), {"open": paper}]:
                for check in (shows_change, shows_open):
                    self.assertIs(check(A, (1, 2, 3), value), False)
                    for at in range(len(paper)):
                        some = paper[:at] + (value,) + paper[at + 1:]
                        self.assertIs(check(A, (1, 2, 3), some), check == shows_change and some == judge(A, 1, 3))
        self.assertIs(shows_change(A, (1, 3), ("changes", P * 40000, (1, 3), (3, 0, 0))), False)
        self.assertIs(shows_change(D, (1,), ("changes", P * 40000, (5,), (5, 0, 0))), True)

    def test_gaps_that_are_none(self):
        for check in (shows_change, shows_open):
            for gap in [4, -1] + odd_values():
                for gaps in ((gap,), [3, gap], (gap, 3, 99)):
                    with self.assertRaises(NoRow) as caught:
                        check(D, gaps, None)
                    self.assertIs(caught.exception.row, gap)
            for gaps in ((3,), [0, 3]):
                with self.assertRaises(HeldGap) as caught:
                    check(D, gaps, None)
                self.assertEqual(caught.exception.row, 3)
            for code in (jumping(GOALS_801), clashing(GOALS_801, 3)):
                with self.assertRaises(TooMany) as caught:
                    check(code, (99,), None)
                self.assertEqual(caught.exception.most, 800)
            with self.assertRaises(Clash) as caught:
                check(clashing(GOALS_800, 4), (99,), None)
            self.assertEqual((caught.exception.way, caught.exception.name), clash(clashing(GOALS_800, 4)))


class OpenTest(unittest.TestCase):

    def test_papers_that_hold(self):
        right = 0
        for code in codes(63, 60, 30):
            known = list(points(code))
            harmless = [gap for gap in code.gaps if gap not in bad_gaps(code)
                        and not any(gap == max(pair) for pair in bad_pairs(code))]
            word, alikes, quiets = judge(code, *harmless)
            more = judge(code, *harmless[1:])
            self.assertIs(shows_open(code, harmless, (word, alikes[::-1] + alikes, quiets[::-1] + quiets)), True)
            self.assertIs(shows_open(code, harmless, (word, more[1] + alikes, quiets + more[2])), True)
            self.assertIs(shows_open(code, harmless[1:], (word, alikes, quiets)), True)
            # With a tuple left out, or with other gaps, it holds exactly if the document says so.
            for at in range(min(12, len(alikes))):
                right += self.hold(code, harmless, (word, alikes[:at] + alikes[at + 1:], quiets), known)
            for at in range(min(12, len(quiets))):
                right += self.hold(code, harmless, (word, alikes, quiets[:at] + quiets[at + 1:]), known)
            right += self.hold(code, code.gaps, (word, alikes, quiets), known)
            right += self.hold(code, harmless, more, known)
        self.assertGreater(right, 20)

    def hold(self, code, gaps, paper, known):
        shown = shows_open(code, gaps, paper)
        self.assertIs(shown, oracle.open_holds(code, gaps, paper, known))
        return shown

    def test_a_table_of_quiets_for_one_of_alikes(self):
        # The break lands a result early that nobody reads before it is overwritten.
        code = straight("r = slow / - / r = calc / - / send r")
        word, alikes, quiets = judge(code, 0, 1)
        self.assertEqual((word, alikes), ("open", ()))
        self.assertIn(((0, 1), "r"), quiets)
        known = list(points(code))
        self.assertTrue(oracle.open_holds(code, (0, 1), (word, alikes, quiets), known))
        for at in range(len(quiets)):
            self.assertIs(shows_open(code, (0, 1), (word, (), quiets[:at] + quiets[at + 1:])), False)
        for wrong in (((0, 1), "s"), ((0, 1, 2, 3, 4), "r"), ((0, 2), "r"), ((0, 1), ("r",)), ((0, 1),), ("r", (0, 1))):
            self.assertIs(shows_open(code, (0, 1), (word, (), quiets + (wrong,))), False)
        # A row that reads the register, though nothing is heard behind it. (It stands at the end of its way.)
        end = ((0, 1, 2, 3, 4, 5), "r")
        self.assertIs(shows_open(code, (0, 1), (word, (), quiets + (((0, 1, 2, 3, 4), "r"), end))), False)
        # Some pairs more, and pairs at the end.
        self.assertIs(shows_open(code, (0, 1), (word, (), quiets + (end, end))), True)

    def test_quiets_round_a_loop(self):
        # With a break the copy has landed ahead of the result for good, and nobody reads it in the loop.
        code = straight("r = far s / - / r = calc / - / - / go 5 s")
        word, alikes, quiets = judge(code, 1, 2)
        self.assertEqual((word, alikes), ("open", ()))
        self.assertIn(((5, 5, 5, 5, 5, 5), "r"), quiets)
        self.assertTrue(oracle.open_holds(code, (1, 2), (word, (), quiets), list(points(code))))
        self.assertIs(shows_open(code, (1, 2), (word, (), quiets)), True)
        left = tuple(pair for pair in quiets if pair != ((5, 5, 5, 5, 5, 5), "r"))
        self.assertIs(shows_open(code, (1, 2), (word, (), left)), False)

    def test_papers_that_are_spoilt(self):
        for code, gaps in ((A, (0, 1, 2)), (D, (0, 2)), (tied(TWO), (0, 1, 3))):
            known = list(points(code))
            paper = judge(code, *gaps)
            for some in spoilt(paper):
                try:
                    right = isinstance(some, tuple) and len(some) == 3 and isinstance(some[1], tuple) and isinstance(
                        some[2], tuple) and oracle.open_holds(code, gaps, some, known)
                except (TypeError, ValueError, KeyError, IndexError):
                    right = False
                self.assertIs(shows_open(code, gaps, some), right, some)

    def test_no_gaps(self):
        self.assertIs(shows_open(A, (), ("open", (), ())), True)
        self.assertIs(shows_open(A, [], ("open", (), ())), True)
        self.assertIs(shows_open(A, (0,), ("open", (), ())), True)
        self.assertIs(shows_open(A, (1,), ("open", (), ())), False)
        self.assertIs(shows_change(A, (), judge(A, 1, 3)), False)

    def test_forty_rows_and_nearly_eight_hundred_points(self):
        code = wide()
        word, alikes, quiets = judge(code, *code.gaps)
        self.assertGreater(len(alikes), 20000)
        self.assertIs(shows_open(code, code.gaps, (word, alikes, quiets)), True)
        for at in (0, len(alikes) // 2):
            self.assertIs(shows_open(code, code.gaps, (word, alikes[:at] + alikes[at + 1:], quiets)), False)
            spoiled = alikes[:at] + ((alikes[at][0] + (True,),) + alikes[at][1:],) + alikes[at + 1:]
            self.assertIs(shows_open(code, code.gaps, (word, spoiled, quiets)), False)
        code = wide(13)
        for gap in code.gaps:
            paper = judge(code, gap)
            self.assertIs(shows_change(code, (gap,), paper), gap in bad_gaps(code))
            self.assertIs(shows_open(code, (gap,), paper), gap not in bad_gaps(code))

    def test_what_is_passed_stays_as_it_was(self):
        gaps, paper = [1, 2], list(judge(A, 1, 2))
        shows_open(A, gaps, paper)
        shows_change(A, gaps, paper)
        self.assertEqual((gaps, tuple(paper)), ([1, 2], judge(A, 1, 2)))


if __name__ == "__main__":
    unittest.main()
