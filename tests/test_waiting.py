import itertools
import random
import unittest

from latelands.casecheck import is_wait_paper, shows_wait
from latelands.errors import Clash, HeldGap, NoRow, TooMany
from latelands.judge import bad_gaps, bad_pairs, judge
from latelands.judgecheck import shows_change, shows_open
from latelands.landings import clash
from latelands.player import Player
from latelands.waiting import Search, longest_wait, shortest_wait
from latelands.ways import points
from tests import oracle
from tests.helpers import (A, D, GOALS_800, GOALS_801, L, ROUND, THREE, TWO, clashing, code_of, jumping, odd_values, straight,
                           tied, tied_loop, wide)


def codes(seed, many):
    chance = random.Random(seed)
    found = oracle.random_codes(seed, many // 2) + [oracle.random_tied(chance) for _ in range(many // 2)]
    found = [code for code in found if clash(code) is None]
    return [A, D, L, ROUND, tied(TWO), tied(THREE)] + [code for code in found if len(list(points(code))) <= 120]


def harmless_sets(code):
    """All sets of gaps that are harmless."""
    free = [gap for gap in code.gaps if gap not in bad_gaps(code) and (gap, gap) not in bad_pairs(code)]
    pairs = [set(pair) for pair in bad_pairs(code)]
    return [some for many in range(len(free) + 1) for some in itertools.combinations(free, many)
            if not any(pair <= set(some) for pair in pairs)]


class LongestTest(unittest.TestCase):

    def test_the_examples(self):
        self.assertEqual([longest_wait(A, (0, 1, 2)), longest_wait(A, (0, 3)), shortest_wait(A)[0]],
                         [(1, (3,)), (2, (1, 2)), 1])

    def hold(self, code, gaps):
        count, rows = longest_wait(code=code, gaps=gaps)
        self.assertEqual(count, oracle.longest_wait(code, gaps))
        self.assertIs(type(rows), tuple)
        if count is None:
            self.assertTrue(oracle.is_ring(code, gaps, rows))
        else:
            self.assertTrue(oracle.is_wait(code, gaps, rows))
            self.assertEqual(len(rows), count)
        return count

    def test_many_codes(self):
        counts = []
        for code in codes(81, 150):
            some = code.gaps[::2]
            for gaps in ((), code.gaps, some, code.gaps[1:], code.gaps[:-1]):
                counts.append(self.hold(code, gaps))
                for same in (list(gaps), gaps[::-1], gaps + gaps[::-1]):
                    self.assertEqual(longest_wait(code, same), longest_wait(code, gaps))
        self.assertGreater(counts.count(None), 50)
        self.assertGreater(counts.count(0), 20)
        self.assertGreater(len([count for count in counts if count is not None and count > 2]), 50)

    def test_waits_of_nothing(self):
        self.assertEqual(longest_wait(A, (0, 1, 2, 3)), (0, ()))
        # The row 0 is waited in only if the code comes back to it.
        self.assertEqual(longest_wait(A, (1, 2, 3)), (0, ()))
        self.assertEqual(longest_wait(code_of("send a"), ()), (0, ()))
        self.assertEqual(longest_wait(code_of("go 0 c"), (0,)), (0, ()))

    def test_rings(self):
        self.assertEqual(longest_wait(code_of("go 0 c"), ()), (None, (0,)))
        self.assertEqual(longest_wait(code_of("go 1 c / go 1 c"), [0]), (None, (1,)))
        count, rows = longest_wait(D, ())
        self.assertEqual((count, sorted(rows)), (None, [0, 1, 2, 3]))
        self.assertTrue(oracle.is_ring(D, (), rows))
        self.assertEqual(longest_wait(D, (0,)), (3, (1, 2, 3)))
        self.assertEqual(longest_wait(D, (0, 1, 2)), (1, (3,)))

    def test_rows_to_which_no_way_leads(self):
        # The rows 1 and 2 go round for ever, but no way leads there; row 3 is a next row of theirs and of row 0.
        code = code_of("go 3 / go 2 c / go 1 c / send a")
        self.assertEqual(longest_wait(code, ()), (1, (3,)))
        self.assertEqual(longest_wait(code, (3,)), (0, ()))

    def test_gaps_that_are_none(self):
        for gap in [4, -1] + odd_values() + ["1", (1,)]:
            for gaps in ((gap,), [3, gap], (gap, 3, 99)):
                with self.assertRaises(NoRow) as caught:
                    longest_wait(D, gaps)
                self.assertIs(caught.exception.row, gap)
        for gaps in ((3,), [0, 3], (3, 1)):
            with self.assertRaises(HeldGap) as caught:
                longest_wait(D, gaps)
            self.assertEqual(caught.exception.row, 3)

    def test_a_bell_of_a_player_waits_no_longer(self):
        chance = random.Random(82)
        for code in codes(83, 60):
            gaps = tuple(gap for gap in code.gaps if chance.random() < 0.5)
            count = longest_wait(code, gaps)[0]
            for _ in range(5):
                # The bell comes during row 0, and a new one as soon as an open gap has let the one before in.
                player = Player(code)
                player.go(chance.choice(code.next_rows(0)))
                waited = 0
                while not player.ended and player.step < 60:
                    if player.row in gaps:
                        player.break_in()
                        waited = 0
                    else:
                        waited += 1
                    player.go(chance.choice(code.next_rows(player.row)))
                    self.assertTrue(count is None or waited <= count)

    def test_errors_come_in_their_order(self):
        for ask in (lambda code: longest_wait(code, (99,)), shortest_wait):
            for code in (jumping(GOALS_801), clashing(GOALS_801, 3)):
                with self.assertRaises(TooMany) as caught:
                    ask(code)
                self.assertEqual(caught.exception.most, 800)
            # A clash comes ahead of too many gaps in pairs.
            for code in (clashing(GOALS_800, 4), tied(*[TWO] * 9, "r = move s", "-", "r = hold s")):
                with self.assertRaises(Clash) as caught:
                    ask(code)
                self.assertEqual((caught.exception.way, caught.exception.name), clash(code))

    def test_what_is_passed_stays_as_it_was(self):
        gaps = [2, 0, 2]
        longest_wait(A, gaps)
        shortest_wait(A)
        self.assertEqual((gaps, str(A)), ([2, 0, 2], "alike r s\nr = move s\n-\nr = calc\nsend r"))


class ShortestTest(unittest.TestCase):

    def hold(self, code, tried=True):
        """What shortest_wait tells of a code, all harmless sets tried. Returns the count."""
        count, gaps, paper = shortest_wait(code)
        self.assertEqual(list(gaps), [gap for gap in code.gaps if gap in gaps])
        self.assertEqual(longest_wait(code, gaps)[0], count)
        if tried:
            counts = [oracle.longest_wait(code, some) for some in harmless_sets(code)]
            self.assertEqual(min([each for each in counts if each is not None], default=None), count)
            self.assertIn(gaps, harmless_sets(code))
        harmless, changes, cases = paper
        self.assertTrue(harmless[0] == "open" and shows_open(code, gaps, harmless))
        for some, change in changes:
            self.assertTrue(some[0] <= some[1] and shows_change(code, some, change))
        pairs = [some for some, _ in changes]
        self.assertTrue(cases is None if count == 0 else oracle.wait_paper_holds(code, pairs, count, cases))
        self.assertIs(shows_wait(code, count, gaps, paper), True)
        return count

    def test_many_codes(self):
        found = [self.hold(code) for code in codes(84, 200)]
        self.assertGreater(found.count(0), 20)
        self.assertGreater(found.count(None), 5)
        self.assertGreater(len([count for count in found if count is not None and count > 1]), 10)

    def test_the_codes_of_the_document(self):
        self.assertEqual(shortest_wait(code=A)[:2], (1, (0, 1, 2)))
        self.assertEqual(shortest_wait(D)[:2], (1, (0, 2)))
        self.assertEqual(shortest_wait(A)[2][1:],
                         ((((1, 3), judge(A, 1, 3)), ((2, 3), judge(A, 2, 3))), ((1,), ((1, ((3,), ())),))))

    def test_no_wait_and_a_ring_in_any_case(self):
        code = straight("alike r s / r = move s / send r")
        self.assertEqual(shortest_wait(code), (0, (0, 1), (judge(code, 0, 1), (), None)))
        code = straight("r = slow ; go 1 / send r ; go 1 c / send s")
        self.assertEqual(bad_gaps(code), (1,))
        count, gaps, (harmless, changes, cases) = shortest_wait(code)
        self.assertEqual((count, gaps, cases), (None, (0, 2), ((1,), ())))
        self.hold(code)

    def test_the_choice_between_two_gaps(self):
        # The gap 3 is bad, so with the gap 1 open the wait is longer than with the gap 2.
        code = straight("alike r s / r = move s / r = calc / send r ; s = slow / send s")
        self.assertEqual((bad_gaps(code), bad_pairs(code)), ((3,), ((1, 2),)))
        self.assertEqual((longest_wait(code, (0, 1)), longest_wait(code, (0, 2))), ((2, (2, 3)), (1, (1,))))
        self.assertEqual(shortest_wait(code)[:2], (1, (0, 2)))
        self.hold(code)
        for parts in ((TWO, TWO), (THREE, TWO), (TWO, THREE, TWO)):
            self.assertEqual(self.hold(tied(*parts)), 1)

    def test_sixteen_gaps_in_pairs_and_seventeen(self):
        self.assertEqual(self.hold(tied(*[TWO] * 8), tried=False), 1)
        self.assertEqual(self.hold(tied(*[TWO] * 5 + [THREE] * 2), tried=False), 1)
        for code in (tied(*[TWO] * 7 + [THREE]), tied(*[TWO] * 9)):
            with self.assertRaises(TooMany) as caught:
                shortest_wait(code)
            self.assertEqual(caught.exception.most, 16)

    def test_pairs_of_a_gap_that_must_be_shut_do_not_count(self):
        self.assertEqual(self.hold(tied_loop(7), tried=False), 2)
        self.hold(tied_loop(1))
        self.assertEqual(self.hold(tied_loop(7, turned=True), tried=False), 2)
        self.assertRaises(TooMany, shortest_wait, tied_loop(8))

    def test_bad_gaps_alone(self):
        code = straight(" / ".join(["r = slow ; send r"] * 20))
        self.assertEqual(shortest_wait(code)[:2], (19, (0,)))
        self.hold(code, tried=False)

    def test_pairs_in_a_loop(self):
        for code in (L, ROUND):
            self.hold(code)

    def test_forty_rows_and_nearly_eight_hundred_points(self):
        self.assertEqual(self.hold(wide(), tried=False), 0)
        self.assertEqual(self.hold(wide(13), tried=False), None)
        self.hold(tied(*[TWO] * 8, *["send r ; send s"] * 8), tried=False)


class SearchTest(unittest.TestCase):
    """The search held against all sets of gaps, with gaps tied together that need not be a bad pair of the code."""

    def test_any_ties(self):
        chance = random.Random(85)
        kinds = []
        for _ in range(1200):
            size = chance.randint(2, 8)
            jumps = chance.choice([0.2, 0.5, 0.9])
            code = code_of(" / ".join(f"go {chance.randint(0, size)} c" if chance.random() < jumps else "-"
                                      for _ in range(size)))
            pairs = [(low, high) for low in range(size) for high in range(low, size) if chance.random() < 0.2]
            kinds.append(self.hold(code, pairs))
        self.assertGreater(kinds.count((None, True)), 20)
        self.assertGreater(kinds.count((None, False)), 20)
        self.assertGreater(len([count for count, cases in kinds if count and cases]), 100)

    def hold(self, code, pairs):
        search = Search(code)
        shut = {low for low, high in pairs if low == high}
        tied_gaps = [pair for pair in pairs if not shut & set(pair)]
        search.ties = {gap: tuple(other for pair in tied_gaps for other in pair if gap in pair and other != gap)
                       for gap in code.gaps if gap not in shut}
        free = [some for many in range(len(code) + 1) for some in itertools.combinations(search.ties, many)
                if not any(set(pair) <= set(some) for pair in pairs)]
        counts = [oracle.longest_wait(code, some) for some in free]
        count, gaps = search.least()
        self.assertEqual(count, min([each for each in counts if each is not None], default=None))
        self.assertIn(gaps, free)
        self.assertEqual(oracle.longest_wait(code, gaps), count)
        if count == 0:
            return count, False
        paper = search.paper((), count)
        shown = [(gap, gap) for gap in shut] + tied_gaps
        self.assertTrue(oracle.wait_paper_holds(code, shown, count, paper))
        self.assertIs(is_wait_paper(code, shown, count, paper), True)
        if tied_gaps:
            self.assertIs(is_wait_paper(code, shown[:-1], count, paper),
                          oracle.wait_paper_holds(code, shown[:-1], count, paper))
        return count, len(paper[1]) > 0

    def test_papers_stay_small(self):
        chance = random.Random(86)
        for _ in range(40):
            code = code_of(" / ".join(f"go {chance.randint(0, 30)} c" if chance.random() < 0.5 else "-" for _ in range(30)))
            gaps = chance.sample(range(30), 16)
            pairs = [tuple(sorted(gaps[at:at + 2])) for at in range(0, 16, 2)] + [tuple(sorted(gaps[7:9]))]
            search = Search(code)
            search.ties = {gap: tuple(other for pair in pairs for other in pair if gap in pair and other != gap)
                           for gap in range(30)}
            count = search.least()[0]
            if count != 0:
                paper = search.paper((), count)
                self.assertTrue(oracle.wait_paper_holds(code, pairs, count, paper))
                self.assertLess(repr(paper).count("(("), 1000)

    def test_papers_do_not_branch_where_they_need_not(self):
        # Of two rings the one of which no gap can be open is told.
        code = code_of("go 3 c / go 1 c / go 0 / go 3 c / -")
        search = Search(code)
        search.ties = {gap: {0: (2,), 2: (0,)}.get(gap, ()) for gap in (0, 1, 2, 4)}
        self.assertEqual(search.paper((), None), ((3,), ()))
        # A gap of which all ties are shut can be open, so it is in no case.
        search = Search(code)
        search.ties = {0: (), 1: (3,), 2: (), 3: (1,), 4: ()}
        self.assertEqual(search.paper((), None), ((1,), ((1, ((3,), ())),)))


if __name__ == "__main__":
    unittest.main()
