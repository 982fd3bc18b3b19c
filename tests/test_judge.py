import itertools
import random
import unittest

from latelands.errors import Clash, HeldGap, InvalidBreaks, NoName, NoPoint, NoRow, TooMany
from latelands.judge import bad_gaps, bad_pairs, differences, heard, judge
from latelands.landings import clash
from latelands.player import Player
from latelands.values import first_change, handed
from latelands.ways import is_way, points
from tests import oracle
from tests.helpers import (A, D, GOALS_800, GOALS_801, L, ROUND, THREE, TWO, clashing, code_of, jumping, odd_values, straight,
                           tied, wide)

P = (0, 1, 2, 3)


def codes(seed, many, most_points=120):
    """Codes without a clash, many with bad gaps, some with bad pairs."""
    chance = random.Random(seed)
    found = oracle.random_codes(seed, many // 2) + [oracle.random_tied(chance) for _ in range(many // 2)]
    found = [code for code in found if clash(code) is None]
    return [A, D, L, ROUND] + [code for code in found if len(list(points(code))) <= most_points]


def steps_for(code, most_ways=40):
    """So many rows that the ways with this number are not too many to be tried."""
    return max(rows for rows in range(5, 10) if rows == 5 or len(oracle.ways_of(code, rows)) <= most_ways)


class DifferencesTest(unittest.TestCase):

    def test_the_examples(self):
        shown = [differences(A, (0, 1), (0,)), differences(A, P, (0,)), differences(A, P, (0, 2)), heard(A, (0, 1), "r"),
                 heard(A, (0, 1), "s"), heard(A, (0,), "s")]
        self.assertEqual(shown, [(("r", 1, 0),), (("r", 3, 0),), (("r", 1, 0),), (1, 2, 3), None, (0,)])
        with self.assertRaises(InvalidBreaks) as caught:
            differences(A, (0, 1), (1,))
        self.assertEqual(caught.exception.index, 0)

    def test_differences_of_many_codes(self):
        found = []
        for code in codes(51, 160):
            for point in points(code):
                for ages in oracle.patterns(code, point):
                    told = differences(code=code, point=point, ages=ages)
                    self.assertEqual(told, oracle.differences(code, point, ages))
                    found.extend((len(ages), len(told)) for _ in told)
        self.assertGreater(found.count((1, 2)), 50)
        self.assertGreater(found.count((2, 1)), 1000)

    def test_a_difference_by_what_lands_just_now(self):
        # The break lands the first write early, and the second one, issued behind it, has landed in its time.
        code = code_of("a = two / a = one / send a")
        self.assertIsNotNone(clash(code))
        code = straight("r = hold s / r = calc / - / send r")
        self.assertEqual(differences(code, (0, 1), (0,)), (("r", 1, 0),))
        self.assertEqual(differences(code, (0, 1, 2), (1,)), ())
        code = straight("alike r s / r = far s / - / r = calc / - / send r / send r")
        # At step 5 the copy lands without breaks, but has landed ahead of the result of calc with one.
        self.assertEqual(differences(code, (0, 1, 2, 3, 4, 5), (3,)), (("r", 3, 0),))
        self.assertEqual(differences(code, (0, 1, 2, 3, 4, 5), (0,)), ())

    def test_ages_that_are_none(self):
        for ages, index in [((3,), 0), ((-1,), 0), ((0, 0), 1), ((1, 0), 1), ((0, 3), 1), ((0, -1), 1), ((True,), 0),
                            ((0, True), 1), ((False, 1), 0), ((3, 3), 0), ((0, 1, 2), 0), ((), 0), ((None,), 0), ((0, "1"), 1),
                            (((0,),), 0), ([0], 0), ([0, 1], 0), ((0, D), 1), (({}, 0), 0)]:
            with self.assertRaises(InvalidBreaks) as caught:
                differences(A, P, ages)
            self.assertEqual(caught.exception.index, index, ages)
        for ages in odd_values():
            with self.assertRaises(InvalidBreaks) as caught:
                differences(A, P, ages)
            self.assertEqual(caught.exception.index, 0)
        # A break ahead of the end is none, and none is at a held gap.
        for point, ages, index in [(P + (4,), (0,), 0), (P + (4,), (0, 1), 0), (P + (4,), (4,), 0), (P + (4,), (3, 4), 1)]:
            with self.assertRaises(InvalidBreaks) as caught:
                differences(A, point, ages)
            self.assertEqual(caught.exception.index, index)
        self.assertEqual(differences(A, P + (4,), (1,)), (("r", 4, 0),))
        point = (3, 0, 1, 2, 3, 0)
        for ages, index in [((1,), 0), ((0, 1), 1), ((1, 2), 0), ((5,), 0)]:
            with self.assertRaises(InvalidBreaks) as caught:
                differences(D, point, ages)
            self.assertEqual(caught.exception.index, index)
        self.assertEqual(differences(D, point, (0, 4)), (("r", 4, 0),))

    def test_heard_of_many_codes(self):
        lengths = []
        for code in codes(52, 120):
            for point in points(code):
                for name in code.registers:
                    rows = heard(code=code, point=point, name=name)
                    lengths.append(0 if rows is None else len(rows))
                    self.assertEqual(lengths[-1] or None, oracle.heard(code, point, name))
                    if rows is not None:
                        self.hold(code, point, name, rows)
        self.assertGreater(lengths.count(0), 500)
        self.assertGreater(len([rows for rows in lengths if rows > 2]), 150)

    def hold(self, code, point, name, rows):
        self.assertIs(type(rows), tuple)
        self.assertEqual(rows[0], point[-1])
        self.assertTrue(oracle.reads(code, rows[-1], name))
        for row in rows[1:]:
            point = [each for each in oracle.after(code, point) if each[-1] == row][0]
            self.assertFalse(oracle.lands_at(code, point, name))

    def test_registers_that_are_not_heard(self):
        # Nobody reads a; b is overwritten first; c is read in the row to come, d at last.
        code = code_of("a = one ; b = one / send c / b = one / - / send b ; send d")
        told = [[heard(code, way, name) for name in "abcd"] for way in ((0,), (0, 1), (1, 2))]
        self.assertEqual(told, [[None, None, (0, 1), (0, 1, 2, 3, 4)], [None, None, (1,), (1, 2, 3, 4)],
                                [None, None, None, (2, 3, 4)]])
        self.assertEqual([heard(code, (2, 3), name) for name in "abcd"], [None, (3, 4), None, (3, 4)])
        self.assertEqual([heard(code, (4, 5), name) for name in "abcd"], [None] * 4)

    def test_errors(self):
        for value in [(1,), (0, 2), (0, True), [0]] + odd_values():
            for ask in (lambda: differences(A, value, None), lambda: heard(A, value, None)):
                with self.assertRaises(NoPoint) as caught:
                    ask()
                self.assertIs(caught.exception.point, value)
        for name in ["x", "R", ("r",)] + odd_values():
            with self.assertRaises(NoName) as caught:
                heard(A, (0, 1), name)
            self.assertIs(caught.exception.name, name)


class JudgeTest(unittest.TestCase):

    def test_the_examples(self):
        shown = [bad_gaps(A), bad_pairs(A), judge(A, 3, 1), judge(A, 2, 1)[0]]
        self.assertEqual(shown, [(), ((1, 3), (2, 3)), ("changes", P, (1, 3), (3, 0, 0)), "open"])
        with self.assertRaises(HeldGap) as caught:
            judge(D, 3, 0)
        self.assertEqual(caught.exception.row, 3)
        self.assertEqual([0 in bad_gaps(L), (0, 0) in bad_pairs(L), judge(L, 0)],
                         [False, True, ("changes", (0, 1, 2, 0, 3, 4, 0), (3, 6), (6, 0, 0))])

    def test_the_codes_of_the_document(self):
        self.assertEqual((bad_gaps(D), bad_pairs(D)), ((1,), ()))
        self.assertEqual(judge(D, 1), ("changes", (0, 1), (1,), (1, 0, 0)))
        self.assertEqual([judge(A, *gaps)[0] for gaps in ((), (0, 1, 2), (0, 3), (2, 3))], ["open"] * 3 + ["changes"])
        self.assertEqual(judge(D, 0, 2)[0], "open")
        self.assertEqual(bad_gaps(ROUND), (0,))
        self.assertEqual(bad_pairs(ROUND), ((4, 6), (4, 7), (5, 6), (5, 7), (5, 8), (6, 8), (7, 8)))

    def test_gaps_in_any_order_and_twice(self):
        for gaps in itertools.permutations((0, 1, 3)):
            self.assertEqual(judge(A, *gaps), judge(A, 0, 1, 3, 1, 0))
        self.assertEqual(judge(A, 2, 1, 2), judge(A, 1, 2))
        self.assertEqual(judge(code=A), ("open", (), ()))

    def hold(self, code, gaps, least, rows):
        """What judge tells of some gaps, held against the changes on all ways of at most so many rows."""
        told = judge(code, *gaps)
        tried = min([least[some] for some in least if set(some) <= set(gaps)], default=None)
        if told[0] == "open":
            self.assertIs(tried, None)
            self.assertEqual([list(table) for table in told[1:]], [sorted(set(table)) for table in told[1:]])
            self.assertTrue(oracle.open_holds(code, gaps, told, list(points(code))))
            return told[0]
        word, way, breaks, change = told
        self.assertEqual(word, "changes")
        self.assertTrue(is_way(code, way) and 1 <= len(breaks) <= 2 and set(breaks) <= set(oracle.moments(code, way)))
        self.assertTrue(all(way[moment] in gaps for moment in breaks))
        self.assertEqual(change, oracle.first_change(code, way, breaks))
        self.assertEqual(change[0], len(way) - 1)
        self.assertEqual(tried, len(way) if len(way) <= rows else None)
        return len(breaks)

    def test_many_codes(self):
        kinds = []
        for code in codes(53, 200, 60):
            rows = steps_for(code)
            least = oracle.least_changes(code, rows)
            sets = [(), code.gaps] + [(gap,) for gap in code.gaps] + list(itertools.combinations(code.gaps, 2))
            harmless = tuple(gap for gap in code.gaps if gap not in bad_gaps(code)
                             and not any(gap == max(pair) for pair in bad_pairs(code)))
            kinds.extend([self.hold(code, gaps, least, rows) for gaps in sets + [harmless]])
            self.assertEqual(judge(code, *harmless)[0], "open")
            self.hold_bad(code, least)
        self.assertGreater(kinds.count("open"), 300)
        self.assertGreater(kinds.count(1), 300)
        self.assertGreater(kinds.count(2), 20)

    def hold_bad(self, code, least):
        """The bad gaps and pairs of a code, held against these changes and against judge."""
        bad, pairs = bad_gaps(code), bad_pairs(code)
        self.assertEqual(bad, tuple(gap for gap in code.gaps if judge(code, gap)[0] == "changes"
                                    and len(judge(code, gap)[2]) == 1))
        self.assertEqual(list(pairs), sorted(set(pairs)))
        for gaps in least:
            self.assertTrue(any(gap in bad for gap in gaps) or gaps in pairs, gaps)
        for low, high in pairs:
            self.assertTrue(low <= high and low not in bad and high not in bad)
            paper = judge(code, low, high)
            self.assertTrue(paper[0] == "changes" and len(paper[2]) == 2)
            if (low, low) not in pairs and (high, high) not in pairs:
                self.assertEqual(tuple(sorted(paper[1][moment] for moment in paper[2])), (low, high))

    def test_no_breaks_at_harmless_gaps_change_anything(self):
        for code in codes(54, 60, 40):
            harmless = [gap for gap in code.gaps if gap not in bad_gaps(code)
                        and not any(gap == max(pair) for pair in bad_pairs(code))]
            for way in oracle.ways_of(code, min(6, steps_for(code)))[:6]:
                moments = [moment for moment in oracle.moments(code, way) if way[moment] in harmless]
                for many in range(len(moments) + 1):
                    for breaks in itertools.combinations(moments, many):
                        self.assertIs(first_change(code, way, breaks), None)

    def test_told_ways_are_played(self):
        for code in codes(55, 80):
            for gaps in [(gap,) for gap in bad_gaps(code)] + list(bad_pairs(code)):
                _, way, breaks, change = judge(code, *gaps)
                player = Player(code)
                told = []
                for step, row in enumerate(way):
                    if step in breaks:
                        player.break_in()
                    told.append(player.go(way[step + 1] if step + 1 < len(way) else code.next_rows(row)[0]))
                plain = handed(code, way)
                self.assertEqual(tuple(told[:-1]), plain[:-1])
                places = [(len(way) - 1, index, place) for index, values in enumerate(plain[-1])
                          for place, each in enumerate(values) if told[-1][index][place] != each]
                self.assertEqual(min(places), change)

    def test_codes_with_a_small_reach_or_without_copies_have_no_bad_pair(self):
        chance = random.Random(56)
        for code in codes(56, 300, 400):
            if code.reach <= 3 or not any(oracle.family(code, operation) == "copy" for row in code.rows for operation in row):
                self.assertEqual(bad_pairs(code), ())
        code = tied(TWO)
        self.assertEqual(bad_pairs(code), ((1, 2),))
        for _ in range(5):
            rows = [tuple(("calc", operation[1], (), None) if operation[0] in ("move", "hold") else operation for operation in row)
                    for row in code.rows]
            chance.shuffle(rows)
            self.assertEqual(bad_pairs(code.of(code.machine, rows)), ())

    def test_two_breaks_at_one_gap_in_two_turns(self):
        self.assertIn((0, 0), bad_pairs(L))
        self.assertEqual(bad_gaps(L), ())
        paper = judge(L, 0, 1)
        self.assertEqual(len(paper[2]), 2)

    def test_the_first_change_in_the_last_row(self):
        # In the second source, and in a copy ahead of the give that hands what it copied.
        self.assertEqual(judge(straight("r = slow / send s r"), 1), ("changes", (0, 1), (1,), (1, 0, 1)))
        self.assertEqual(judge(straight("r = slow / s = move r / send s"), 1, 2), ("changes", (0, 1), (1,), (1, 0, 0)))
        self.assertEqual(judge(straight("r = slow / send s / send s r"), 2), ("changes", (0, 1, 2), (2,), (2, 0, 1)))
        # One break is told where one is enough on a way as short.
        self.assertEqual(judge(straight("r = slow / - / send r"), 1, 2)[1:3], ((0, 1, 2), (1,)))

    def test_rows_to_which_no_way_leads(self):
        code = straight("go 3 / r = slow / send r / send r")
        self.assertEqual((bad_gaps(code), judge(code, 0, 1, 2, 3)), ((), ("open", (), ())))
        code = straight("r = slow ; go 3 / send r / send r / send r")
        self.assertEqual(bad_gaps(code), (3,))

    def test_with_late_rows(self):
        code = code_of("a = six ; go 0 c / send a / send a", late=1)
        self.assertEqual((code.held, bad_gaps(code)), ((1,), (0, 2)))
        self.assertEqual(judge(code, 2), ("changes", (0, 1, 2), (2,), (2, 0, 0)))
        self.assertEqual(judge(code, 0), ("changes", (0, 1, 0, 1), (2,), (3, 0, 0)))

    def test_gaps_that_are_none(self):
        for gap in [5, 4, -1, 40] + odd_values() + ["1", (1,)]:
            for gaps in ((gap,), (1, gap), (3, gap), (gap, 3, 99), (0, gap, None)):
                with self.assertRaises(NoRow) as caught:
                    judge(D, *gaps)
                self.assertIs(caught.exception.row, gap)
        for gaps in ((3,), (0, 3), (3, 1), (3, 3)):
            with self.assertRaises(HeldGap) as caught:
                judge(D, *gaps)
            self.assertEqual(caught.exception.row, 3)
        code = code_of("go 0 c / - / - / go 0 c / - / -", late=2)
        with self.assertRaises(HeldGap) as caught:
            judge(code, 0, 5, 1)
        self.assertEqual(caught.exception.row, 5)

    def test_too_many_points_then_a_clash_come_first(self):
        asks = (lambda code: differences(code, 5, 5), lambda code: heard(code, 5, 5), lambda code: judge(code, 99, None),
                bad_gaps, bad_pairs, judge)
        for ask in asks:
            for code in (jumping(GOALS_801), clashing(GOALS_801, 3)):
                with self.assertRaises(TooMany) as caught:
                    ask(code)
                self.assertEqual(caught.exception.most, 800)
            with self.assertRaises(Clash) as caught:
                ask(clashing(GOALS_800, 4))
            self.assertEqual((caught.exception.way, caught.exception.name), clash(clashing(GOALS_800, 4)))

    def test_more_registers_that_begin_alike_make_no_set_harmful(self):
        for code in codes(57, 60, 60):
            if len(code.registers) > 1:
                other = code.of(code.machine, code.rows, alike=[code.registers])
                plain = code.of(code.machine, code.rows)
                self.assertLessEqual(set(bad_gaps(other)), set(bad_gaps(code)))
                self.assertLessEqual(set(bad_gaps(code)), set(bad_gaps(plain)))

    def test_forty_rows_and_nearly_eight_hundred_points(self):
        code = wide()
        self.assertEqual((len(code), len(list(points(code)))), (40, 796))
        self.assertEqual((bad_gaps(code), bad_pairs(code)), ((), ()))
        word, alikes, quiets = judge(code, *code.gaps)
        self.assertEqual((word, list(alikes), list(quiets)), ("open", sorted(set(alikes)), sorted(set(quiets))))
        code = wide(13)
        bad = bad_gaps(code)
        self.assertGreater(len(bad), 30)
        for gap in code.gaps:
            paper = judge(code, gap)
            self.assertEqual(paper[0], "changes" if gap in bad else "open")
            if gap in bad:
                self.assertEqual(first_change(code, paper[1], paper[2]), paper[3])

    def test_three_and_two_gaps_in_pairs(self):
        self.assertEqual(bad_pairs(tied(THREE)), ((1, 3), (2, 3)))
        self.assertEqual(bad_pairs(tied(TWO, THREE, TWO)), ((1, 2), (5, 7), (6, 7), (10, 11)))

    def test_what_is_passed_and_returned(self):
        before = str(L)
        told = judge(L, 0, 1), bad_gaps(L), bad_pairs(L), heard(L, (0,), "r"), differences(L, (0, 1), (0,))
        self.assertEqual((judge(L, 0, 1), bad_gaps(L), bad_pairs(L), heard(L, (0,), "r"), differences(L, (0, 1), (0,))), told)
        self.assertEqual(str(L), before)
        self.assertTrue(all(isinstance(each, (tuple, type(None))) for each in told))


if __name__ == "__main__":
    unittest.main()
