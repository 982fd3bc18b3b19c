import random
import unittest

from latelands.casecheck import shows_cover, shows_least, shows_wait
from latelands.errors import Clash, TooMany
from latelands.judge import bad_gaps, bad_pairs, judge
from latelands.landings import clash
from latelands.shut import least_shut
from latelands.waiting import longest_wait, shortest_wait
from latelands.ways import points
from tests import oracle
from tests.helpers import (A, D, GOALS_800, GOALS_801, L, ROUND, THREE, TWO, clashing, code_of, jumping, nested, odd_values,
                           spoilt, straight, tied, twisted, wide)

CODES = (A, D, L, ROUND, tied(TWO), tied(THREE, TWO))


def codes(seed, many):
    chance = random.Random(seed)
    found = oracle.random_codes(seed, many // 2) + [oracle.random_tied(chance) for _ in range(many // 2)]
    found = [code for code in found if clash(code) is None]
    return list(CODES) + [code for code in found if len(list(points(code))) <= 60]


def right_or_raised(ask):
    """What the oracle says, or False where it cannot read what it is given."""
    try:
        return bool(ask())
    except (TypeError, ValueError, KeyError, IndexError):
        return False


class CoverTest(unittest.TestCase):

    def test_none(self):
        for c, right in [(-1, True), (-5, True), (0, False), (3, False), (10 ** 59, False), (-10 ** 59, True)]:
            self.assertIs(shows_cover(((1, 2),), c, None), right)
            self.assertIs(shows_cover(pairs=[], c=c, paper=None), right)

    def test_pairs(self):
        pairs = ((1, 2), (3, 4), (3, 5), (6, 6), (0, 6))
        for some, most, right in [(((1, 2), (3, 4), (6, 6)), 2, True), (((1, 2), (3, 4), (6, 6)), 3, False), ((), 0, False),
                                  ((), -1, True), (((1, 2),), 0, True), (((1, 2),), 1, False), (((1, 2), (1, 2)), 1, False),
                                  (((3, 4), (3, 5)), 1, False), (((6, 6), (0, 6)), 1, False), (((0, 6), (3, 5), (1, 2)), 2, True),
                                  (((2, 1),), 0, False), (((1, 3),), 0, False), (((6,),), 0, False), (((6, 6, 6),), 0, False),
                                  (((1, 2), None), 0, False), (([1, 2],), 0, False), (((True, 2),), 0, False),
                                  ([(1, 2)], 0, False), (((1, 2),), -5, True), (((1, 3),), -5, False), (((1, {}),), 0, False)]:
            for given in (pairs, list(pairs), pairs[::-1] + pairs):
                self.assertIs(shows_cover(given, most, ("pairs", some)), right, (some, most))

    def test_cases(self):
        round_of_three = ((0, 1), (0, 2), (1, 2))
        right = ("case", 0, ("pairs", ((1, 2),)), None)
        self.assertIs(shows_cover(round_of_three, 1, right), True)
        self.assertIs(shows_cover(round_of_three, 1, ("case", 2, ("pairs", ((0, 1),)), ("pairs", ()))), True)
        for wrong in [("case", 0, None, None), ("case", 3, ("pairs", ((1, 2),)), None), ("case", 0, ("pairs", ((1, 2),)), ()),
                      ("case", 0, ("pairs", ((0, 1),)), None), ("case", False, ("pairs", ((1, 2),)), None),
                      ("case", 0, ("pairs", ((1, 2),)), ("pairs", ((1, 2),))), ("case", 0, ("pairs", ((1, 2),))),
                      ("case", 0, ("pairs", ((1, 2),)), None, None), ["case", 0, ("pairs", ((1, 2),)), None],
                      ("cases", 0, ("pairs", ((1, 2),)), None), ("case", None, None, None), ("case", (0,), None, None)]:
            self.assertIs(shows_cover(round_of_three, 1, wrong), False, wrong)
        self.assertIs(shows_cover(round_of_three, 2, right), False)
        # A number that stands in a pair alone has no cases, also if it stands in others.
        self.assertIs(shows_cover(((0, 0), (0, 1), (1, 2)), 0, ("case", 0, None, None)), False)
        self.assertIs(shows_cover(((0, 0),), 0, ("case", 0, None, None)), False)
        self.assertIs(shows_cover(((0, 1), (1, 2)), 0, ("case", 1, None, None)), True)
        # If the number is not taken, the pairs with it are gone with its partners.
        pairs = ((0, 1), (0, 2), (3, 4))
        self.assertIs(shows_cover(pairs, 1, ("case", 0, ("pairs", ((3, 4),)), None)), True)
        self.assertIs(shows_cover(pairs, 2, ("case", 0, ("pairs", ((3, 4),)), ("pairs", ((3, 4),)))), False)
        self.assertIs(shows_cover(pairs, 1, ("case", 1, ("pairs", ((0, 2), (3, 4))), ("pairs", ((3, 4),)))), True)
        self.assertIs(shows_cover(pairs, 1, ("case", 1, ("pairs", ((0, 2), (3, 4))), ("pairs", ((0, 2),)))), False)

    def test_all_small_papers(self):
        chance = random.Random(91)

        def some_paper(pairs, deep):
            if deep == 0 or chance.random() < 0.2:
                return None if chance.random() < 0.3 else ("pairs", tuple(chance.sample(pairs, min(len(pairs), 2))))
            return "case", chance.randint(0, 3), some_paper(pairs, deep - 1), some_paper(pairs, deep - 1)

        shown = 0
        for _ in range(4000):
            pairs = sorted({tuple(sorted((chance.randint(0, 3), chance.randint(0, 3)))) for _ in range(4)})
            paper = some_paper(pairs, chance.randint(0, 3))
            for most in (-1, 0, 1, 2):
                right = oracle.cover_holds(pairs, most, paper)
                self.assertIs(shows_cover(pairs, most, paper), right, (pairs, most, paper))
                shown += right
                # A paper is right only if no set with so many numbers has one of each pair.
                few = [some for some in range(16) if bin(some).count("1") <= most
                       and all(some >> low & 1 or some >> high & 1 for low, high in pairs)]
                self.assertFalse(right and few)
        self.assertGreater(shown, 500)

    def test_papers_that_are_spoilt(self):
        for code in CODES:
            shut, (_, changes, cover) = least_shut(code)
            pairs = [gaps for gaps, _ in changes]
            self.assertIs(shows_cover(pairs, len(shut) - 1, cover), True)
            self.assertIs(shows_cover(pairs, len(shut), cover), False)
            for some in twisted(cover):
                self.assertIs(shows_cover(pairs, len(shut) - 1, some), False, some)
            for some in spoilt(cover):
                right = right_or_raised(lambda: isinstance(some, tuple) and oracle.cover_holds(pairs, len(shut) - 1, some))
                self.assertIs(shows_cover(pairs, len(shut) - 1, some), right, some)

    def test_deep_and_large_values(self):
        paper = ("pairs", ((0, 1),))
        for at in range(190):
            paper = ("case", at % 3, paper, paper if at < 2 else None)
        self.assertIs(shows_cover(((0, 1), (0, 2)), 1, paper), False)
        # A long chain of pairs is taken apart one after another, nested deep.
        pairs = [(at, at + 1) for at in range(0, 300, 2)]
        paper = None
        for at in range(0, 180, 2):
            paper = ("case", at, paper, paper if at == 0 else ("pairs", tuple(pairs[:at // 2])))
        self.assertIs(shows_cover(pairs[:90], 89, paper), True)
        self.assertIs(shows_cover(pairs[:90], 90, paper), False)
        many = tuple((2 * at, 2 * at + 1) for at in range(60000))
        self.assertIs(shows_cover(many, 59999, ("pairs", many)), True)
        self.assertIs(shows_cover(many, 60000, ("pairs", many)), False)
        star = tuple((0, at) for at in range(1, 60000))
        self.assertIs(shows_cover(star, 0, ("case", 0, None, None)), True)
        self.assertIs(shows_cover(star, 1, ("case", 0, None, None)), False)

    def test_values_that_are_no_papers(self):
        for value in odd_values() + [nested(1, 200), nested(None, 100), ("pairs",), ("case",), "pairs"]:
            if value is not None:
                self.assertIs(shows_cover(((0, 1),), 0, value), False)
                self.assertIs(shows_cover(((0, 1),), -1, value), False)
            self.assertIs(shows_cover(((0, 1),), 0, ("pairs", value)), False)
            self.assertIs(shows_cover(((0, 1),), 0, ("pairs", (value,))), False)
            self.assertIs(shows_cover(((0, 1),), 0, ("pairs", ((0, value),))), False)
            self.assertIs(shows_cover(((0, 1),), 0, ("case", value, None, None)), False)
            self.assertIs(shows_cover(((0, 1),), 0, ("case", 0, value, None)), value is None)
            self.assertIs(shows_cover(((0, 1),), 0, ("case", 0, None, value)), value is None)
            self.assertIs(shows_cover(((0, 1),), 0, (value, ((0, 1),))), value == "pairs")


class LeastTest(unittest.TestCase):

    def test_what_least_shut_tells(self):
        for code in codes(92, 120):
            shut, paper = least_shut(code)
            self.assertIs(shows_least(code=code, shut=shut, paper=paper), True)
            # More gaps than are needed, less, other ones, and none.
            others = [gap for gap in code.gaps if gap not in shut]
            for some in [shut + (gap,) for gap in others] + [shut[1:]] * (len(shut) > 0) + [shut + (99,), shut + (-1,)]:
                self.assertIs(shows_least(code, tuple(sorted(some)), paper), False)

    def test_gaps_that_are_none(self):
        shut, paper = least_shut(D)
        for some in [[1], (1, 1), (1, 3), (3,), (True,), (1, 4), (-3,), (2,), (0,), (), ((1,),), (None,), (1, "2")] + odd_values():
            self.assertIs(shows_least(D, some, paper), False)
        shut, paper = least_shut(ROUND)
        for some in (shut[::-1], shut + shut[-1:], list(shut)):
            self.assertIs(shows_least(ROUND, some, paper), False)

    def test_papers_put_together_otherwise(self):
        # Other gaps that are as few, other change rows, tables with more than needed, other cover papers.
        code = tied(TWO)
        rows = (((1, 2), judge(code, 1, 2)),)
        for shut in ((1,), (2,)):
            others = [gap for gap in code.gaps if gap not in shut]
            for cover in (("pairs", ((1, 2),)), ("case", 1, None, None), ("case", 2, None, ("pairs", ()))):
                self.assertIs(shows_least(code, shut, (judge(code, *others), rows * 3, cover)), True)
            self.assertIs(shows_least(code, shut, (judge(code, *others), (), ("pairs", ((1, 2),)))), False)
            self.assertIs(shows_least(code, shut, (judge(code, *others[:-1]), rows, ("pairs", ((1, 2),)))),
                          judge(code, *others[:-1]) == judge(code, *others))
        self.assertIs(shows_least(code, (1, 2), (judge(code, 0, 3), rows, ("pairs", ((1, 2),)))), False)
        word, way, breaks, change = judge(code, 1, 2)
        # The way may be longer, and a row with more gaps than the breaks need tells less, but is one.
        longer = ("changes", way + (3,), breaks, change)
        self.assertIs(shows_least(code, (1,), (judge(code, 0, 2, 3), (((1, 2), longer),), ("pairs", ((1, 2),)))), True)
        code = straight("r = slow / send r")
        self.assertEqual(least_shut(code)[0], (1,))
        rows = (((1, 1), judge(code, 1)), ((0, 1), judge(code, 1)))
        self.assertIs(shows_least(code, (1,), (judge(code, 0), rows, ("pairs", ((0, 1),)))), True)
        self.assertIs(shows_least(code, (1,), (judge(code, 0), rows[1:], ("pairs", ((0, 1),)))), True)
        self.assertIs(shows_least(code, (1,), (judge(code, 0), rows[:1], ("pairs", ((0, 1),)))), False)

    def test_papers_that_are_spoilt(self):
        for code in (A, D, ROUND, tied(TWO)):
            shut, paper = least_shut(code)
            known = list(points(code))
            for some in twisted(paper[1:]):
                self.assertIs(shows_least(code, shut, paper[:1] + some if isinstance(some, tuple) else some), False)
            for some in spoilt(paper) if code in (A, D) else []:
                right = right_or_raised(lambda: self.holds(code, shut, some, known))
                self.assertIs(shows_least(code, shut, some), right, some)

    def holds(self, code, shut, paper, known):
        harmless, changes, cover = paper
        others = [gap for gap in code.gaps if gap not in shut]
        if not all(isinstance(each, tuple) for each in (paper, harmless, changes, harmless[1], harmless[2])):
            return False
        return (oracle.open_holds(code, others, harmless, known) and are_rows(code, changes)
                and oracle.cover_holds([gaps for gaps, _ in changes], len(shut) - 1, cover))

    def test_change_rows_that_are_none(self):
        shut, (harmless, changes, cover) = least_shut(A)
        (gaps, change), other = changes
        for row in [(gaps[::-1], change), ((1, 2), change), ((3, 3), change), ((1, 4), change), ((-1, 3), change), ((1,), change),
                    (gaps + (3,), change), (list(gaps), change), [gaps, change], (gaps,), (gaps, change, change), (change, gaps),
                    (gaps, judge(A, 1, 2)), (gaps, None), None, ((True, 3), change), ((1, None), change), (1, change)]:
            self.assertIs(shows_least(A, shut, (harmless, (row, other), cover)), False, row)
            self.assertIs(shows_least(A, shut, (harmless, changes + (row,), cover)), False, row)
        # A row for the gaps 0 and 3 would say that one of them is always shut, which is not shown.
        self.assertIs(shows_least(A, shut, (harmless, changes + (((0, 3), change),), cover)), False)
        self.assertIs(shows_least(A, shut, (harmless, list(changes), cover)), False)
        # In D the gap 3 is held.
        shut, (harmless, changes, cover) = least_shut(D)
        self.assertIs(shows_least(D, shut, (harmless, changes + (((1, 3), changes[0][1]),), cover)), False)
        self.assertIs(shows_least(D, shut, (harmless, changes + (((1, 2), changes[0][1]),), cover)), True)

    def test_values_that_are_no_papers(self):
        shut, paper = least_shut(A)
        for value in odd_values() + [nested(1, 200), paper[:2], paper + (None,), list(paper), nested(paper, 100)]:
            self.assertIs(shows_least(A, shut, value), False)
            for at in range(3):
                self.assertIs(shows_least(A, shut, paper[:at] + (value,) + paper[at + 1:]), False)

    def test_errors_of_the_code(self):
        for check in (lambda code: shows_least(code, (), None), lambda code: shows_wait(code, None, 5, None)):
            for code in (jumping(GOALS_801), clashing(GOALS_801, 3)):
                with self.assertRaises(TooMany) as caught:
                    check(code)
                self.assertEqual(caught.exception.most, 800)
            with self.assertRaises(Clash) as caught:
                check(clashing(GOALS_800, 4))
            self.assertEqual((caught.exception.way, caught.exception.name), clash(clashing(GOALS_800, 4)))

    def test_more_than_sixteen_gaps_in_pairs(self):
        # The checks search nothing, so they look at such a code, too.
        code = tied(*[TWO] * 9)
        pairs = bad_pairs(code)
        rows = tuple((pair, judge(code, *pair)) for pair in pairs)
        shut = tuple(low for low, _ in pairs)
        others = [gap for gap in code.gaps if gap not in shut]
        self.assertIs(shows_least(code, shut, (judge(code, *others), rows, ("pairs", pairs))), True)
        cases = ((1,), ((1, ((2,), ())),))
        self.assertIs(shows_wait(code, 1, tuple(others), (judge(code, *others), rows, cases)), True)


def are_rows(code, changes):
    """Whether these are change rows, by what the oracle plays."""
    return all(isinstance(row, tuple) and is_row(code, *row) for row in changes)


def is_row(code, gaps, change):
    low, high = gaps
    word, way, breaks, first = change
    if not all(isinstance(each, tuple) for each in (gaps, change, way, breaks, first)) or word != "changes":
        return False
    if way not in oracle.ways_of(code, len(way)) or not 1 <= len(breaks) <= 2 or list(breaks) != sorted(set(breaks)):
        return False
    held = oracle.held_gaps(code)
    return (0 <= low <= high < len(code.rows) and low not in held and high not in held
            and set(breaks) <= set(oracle.moments(code, way)) and {way[moment] for moment in breaks} <= {low, high}
            and first == oracle.first_change(code, way, breaks))


class WaitTest(unittest.TestCase):

    def test_what_shortest_wait_tells(self):
        for code in codes(93, 120):
            count, gaps, paper = shortest_wait(code)
            self.assertIs(shows_wait(code=code, count=count, gaps=gaps, paper=paper), True)
            others = [each for each in (None, 0, 1, 2, 3, -1) if each != count]
            for some in others + [True, False, str(count), (count,), 10 ** 59]:
                self.assertIs(shows_wait(code, some, gaps, paper), False)
            # Other gaps: these leave another wait, are not harmless, or their paper is not there.
            for gap in code.gaps:
                some = tuple(each for each in code.gaps if (each in gaps) != (each == gap))
                right = (longest_wait(code, some)[0] == count and oracle.open_holds(code, some, paper[0], list(points(code))))
                self.assertIs(shows_wait(code, count, some, paper), right)

    def test_gaps_that_are_none(self):
        count, gaps, paper = shortest_wait(D)
        self.assertEqual((count, gaps), (1, (0, 2)))
        for some in [[0, 2], (2, 0), (0, 0, 2), (0, 2, 3), (3,), (0, 2, 4), (-1, 0, 2), (False, 2), (0, None), ((0, 2),)] + odd_values():
            self.assertIs(shows_wait(D, count, some, paper), False)

    def test_papers_put_together_otherwise(self):
        code = tied(TWO)
        count, gaps, (harmless, changes, cases) = shortest_wait(code)
        self.assertEqual((count, gaps, bad_pairs(code)), (1, (0, 1, 3), ((1, 2),)))
        right = [((1,), ((1, ((2,), ())),)), ((2,), ((2, ((1,), ())),)), ((3,), ((3, ((1,), ((1, ((2,), ())),))),))]
        for some in right:
            self.assertIs(shows_wait(code, 1, gaps, (harmless, changes, some)), True)
        for some in [((1,), ()), ((2,), ((2, ((2,), ())),)), ((1, 2), ((1, ((2,), ())), (2, ((1,), ())))), ((), ()), None,
                     ((1,), ((1, ((2,), ())),) * 2), ((1,), ((2, ((1,), ())),)), ((1,), ((1, ((2,), ((2, ((1,), ())),))),)),
                     ((1,), ((1, ((1,), ())),)), ((1,), ((True, ((2,), ())),)), ((1,), [(1, ((2,), ()))]), ((1,), ([1, ((2,), ())],)),
                     ([1], ((1, ((2,), ())),)), ((0,), ((0, ((1,), ((1, ((2,), ())),))),)), ((4,), ()), ((1,),), ((1,), (), ())]:
            self.assertIs(shows_wait(code, 1, gaps, (harmless, changes, some)), False, some)
        # With another change row for the gap 1 it is shown shut by a chosen 3.
        row = ((1, 3), judge(code, 1, 2))
        self.assertIs(shows_wait(code, 1, gaps, (harmless, changes + (row,), right[0])), False)
        # Without change rows nothing is shown shut.
        self.assertIs(shows_wait(code, 1, gaps, (harmless, (), right[0])), False)
        # Open tables with more than needed, change rows twice.
        word, alikes, quiets = harmless
        self.assertIs(shows_wait(code, 1, gaps, ((word, alikes * 2, quiets * 2), changes * 2, right[1])), True)

    def test_rings(self):
        code = straight("r = slow ; go 1 / send r ; go 1 c / send s")
        count, gaps, (harmless, changes, cases) = shortest_wait(code)
        self.assertEqual((count, gaps, cases), (None, (0, 2), ((1,), ())))
        # Any harmless set will do, and a ring may have its rows more than once.
        for some in ((), (0,), (2,), (0, 2)):
            for ring in ((1,), (1, 1), (1,) * 500):
                self.assertIs(shows_wait(code, None, some, (judge(code, *some), changes, (ring, ()))), True)
        for ring in ((), (2,), (1, 2), (0, 1), (1, 1, 2), (1, True), [1], None):
            self.assertIs(shows_wait(code, None, gaps, (harmless, changes, (ring, ()))), False)
        self.assertIs(shows_wait(code, None, gaps, (harmless, (), ((1,), ()))), False)
        self.assertIs(shows_wait(code, None, gaps, (harmless, (), ((1,), ((1, ((1,), ())),)))), False)
        self.assertIs(shows_wait(code, None, gaps, (harmless, changes, None)), False)
        # A ring shows a wait of any number of rows, and held rows are shown shut.
        code = code_of("alike a b / a = one / go 3 c / - / send a ; b = far a / send a / send b", late=1)
        count, gaps, paper = shortest_wait(code)
        self.assertIs(shows_wait(code, count, gaps, paper), True)
        code = code_of("a = six ; go 0 c / - / send a / send b", late=1)
        count, gaps, (harmless, changes, cases) = shortest_wait(code)
        self.assertEqual((bad_gaps(code), count, gaps), ((0, 2), None, (3,)))
        for rows in ((0, 1), (1, 0), (0, 1, 0, 1), (1, 0) * 7):
            self.assertIs(shows_wait(code, None, gaps, (harmless, changes, (rows, ()))), True)
        for rows in ((0, 1, 2), (1, 2), (0,), (1,), (0, 1, 0), (2, 3)):
            self.assertIs(shows_wait(code, None, gaps, (harmless, changes, (rows, ()))), False)

    def test_a_wait_of_no_rows(self):
        code = straight("alike r s / r = move s / send r")
        count, gaps, paper = shortest_wait(code)
        self.assertEqual((count, paper[1:]), (0, ((), None)))
        self.assertIs(shows_wait(code, 0, (0, 1), paper), True)
        self.assertIs(shows_wait(code, 0, (1,), paper), True)
        for cases in ((), ((), ()), False, 0):
            self.assertIs(shows_wait(code, 0, (0, 1), paper[:2] + (cases,)), False)
        self.assertIs(shows_wait(code, False, (0, 1), paper), False)
        self.assertIs(shows_wait(code, -1, (0, 1), paper), False)

    def test_papers_that_are_spoilt(self):
        for code in (A, D, L, tied(TWO), tied(THREE)):
            count, gaps, paper = shortest_wait(code)
            pairs = [some for some, _ in paper[1]]
            for some in twisted(paper[2]):
                self.assertIs(shows_wait(code, count, gaps, paper[:2] + (some,)), False)
            for some in spoilt(paper[2]):
                right = right_or_raised(lambda: self.is_tuples(some) and oracle.wait_paper_holds(code, pairs, count, some))
                self.assertIs(shows_wait(code, count, gaps, paper[:2] + (some,)), right, some)
            for some in list(twisted(paper[1])) + [paper[1][1:], paper[1][:-1]]:
                right = some in (paper[1][1:], paper[1][:-1]) and isinstance(some, tuple) and oracle.wait_paper_holds(
                    code, [each for each, _ in some], count, paper[2])
                self.assertIs(shows_wait(code, count, gaps, (paper[0], some, paper[2])), right)

    def is_tuples(self, value):
        return not isinstance(value, (list, dict)) and (not isinstance(value, tuple) or all(map(self.is_tuples, value)))

    def test_values_that_are_no_papers(self):
        count, gaps, paper = shortest_wait(A)
        for value in odd_values() + [nested(1, 200), paper[:2], paper + (None,), list(paper), nested(paper, 100)]:
            self.assertIs(shows_wait(A, count, gaps, value), False)
            self.assertIs(shows_wait(A, count, value, paper), False)
            self.assertIs(shows_wait(A, value, gaps, paper), False)
            for at in range(3):
                self.assertIs(shows_wait(A, count, gaps, paper[:at] + (value,) + paper[at + 1:]), False)
            for some in ((value, ()), ((value,), ()), ((1,), value), ((1,), (value,)), ((1,), ((1, value),)), ((1,), ((value, ()),))):
                self.assertIs(shows_wait(A, count, gaps, paper[:2] + (some,)), False)

    def test_deep_and_large_values(self):
        count, gaps, (harmless, changes, cases) = shortest_wait(A)
        deep = cases
        for _ in range(90):
            deep = ((1,), ((1, deep),))
        self.assertIs(shows_wait(A, count, gaps, (harmless, changes, deep)), False)
        self.assertIs(shows_wait(A, count, gaps, (harmless, changes, ((1,) * 190000, ()))), False)
        self.assertIs(shows_wait(A, count, gaps, (harmless, changes * 1000, cases)), True)
        code = straight("r = slow ; go 1 / send r ; go 1 c / send s")
        count, gaps, (harmless, changes, cases) = shortest_wait(code)
        self.assertIs(shows_wait(code, count, gaps, (harmless, changes, ((1,) * 190000, ()))), True)

    def test_forty_rows_and_nearly_eight_hundred_points(self):
        for code in (wide(), wide(13), tied(*[TWO] * 8, *["send r ; send s"] * 8)):
            self.assertIs(shows_least(code, *least_shut(code)), True)
            self.assertIs(shows_wait(code, *shortest_wait(code)), True)

    def test_what_is_passed_stays_as_it_was(self):
        pairs, paper = [(1, 3), (2, 3)], ["pairs", [(1, 3)]]
        shows_cover(pairs, 0, paper)
        shows_least(A, [3], paper)
        shows_wait(A, 1, [1], paper)
        self.assertEqual((pairs, paper), ([(1, 3), (2, 3)], ["pairs", [(1, 3)]]))


if __name__ == "__main__":
    unittest.main()
