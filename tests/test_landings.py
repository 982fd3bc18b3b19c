import random
import unittest

from latelands.errors import InvalidBreaks, InvalidWay, NoName, NoStep, TooMany
from latelands.landings import clash, landings, writer
from latelands.ways import is_way, points
from tests import oracle
from tests.helpers import A, D, GOALS_800, GOALS_801, L, clashing, code_of, jumping, odd_values

W = (0, 1, 2, 3)


def plays(seed, many):
    """Codes, also with a clash, with ways of them and some of their moments."""
    chance = random.Random(seed)
    for code in [A, D, L] + oracle.random_codes(seed, many):
        for rows in range(9):
            known = oracle.ways_of(code, rows)
            for way in chance.sample(known, min(2, len(known))):
                moments = [step for step in range(1, rows) if way[step] not in code.held]
                for some in {(), tuple(moments), tuple(sorted(chance.sample(moments, len(moments) // 2)))}:
                    yield code, way, some


class LandingsTest(unittest.TestCase):

    def test_the_examples(self):
        self.assertEqual([landings(A, W, (1,)), writer(A, W, 3, "r"), writer(A, W, 3, "r", (1,))],
                         [((1, 5, 0, 0, "r"), (4, 4, 2, 0, "r")), None, (0, 0)])
        # [20]: with breaks ahead of 1 and 3 the step 3 sees the result of calc, with the one ahead of 3 the copy.
        self.assertEqual(writer(A, W, 3, "r", (1, 3)), (2, 0))
        self.assertEqual(writer(A, W, 3, "r", (2, 3)), (2, 0))
        self.assertEqual(writer(A, W, 3, "r", (3,)), (0, 0))
        self.assertEqual(landings(A, W, (1, 3)), ((1, 5, 0, 0, "r"), (3, 4, 2, 0, "r")))
        self.assertEqual(landings(A, W, (3,)), ((3, 4, 2, 0, "r"), (3, 5, 0, 0, "r")))
        # [21]: each turn sends the result of the turn before, with a break its own.
        self.assertIs(writer(D, W * 2, 1, "r"), None)
        self.assertEqual(writer(D, W * 2, 5, "r"), (0, 0))
        self.assertEqual(writer(D, W * 2, 5, "r", (5,)), (4, 0))

    def test_landings_of_many_codes(self):
        for code, way, breaks in plays(7, 80):
            right = oracle.Play(code, way, breaks).landings()
            self.assertEqual(landings(code, way, breaks), right)
            self.assertEqual(landings(code, way, list(breaks)), right)
            self.assertEqual(landings(breaks=breaks, way=way, code=code), right)
            if breaks == ():
                self.assertEqual(landings(code, way), right)

    def test_writers_of_many_codes(self):
        for code, way, breaks in plays(8, 60):
            for step in range(len(way) + 1):
                play = oracle.Play(code, way[:step], breaks)
                play.land(step, step in breaks)
                for name in code.registers:
                    self.assertEqual(writer(code, way, step, name, breaks), play.held[name][1])
                    self.assertEqual(writer(code, way, step, name, list(breaks)), play.held[name][1])

    def test_landings_without_breaks(self):
        self.assertEqual(landings(A, ()), ())
        self.assertEqual(landings(A, (0, 1)), ((5, 5, 0, 0, "r"),))
        self.assertEqual(landings(A, W), ((4, 4, 2, 0, "r"), (5, 5, 0, 0, "r")))
        code = code_of("a = six ; b = one a ; send a / b = two ; a = keep b / -")
        self.assertEqual(landings(code, (0, 1, 2)), ((1, 1, 0, 1, "b"), (2, 2, 1, 1, "a"), (3, 3, 1, 0, "b"), (6, 6, 0, 0, "a")))

    def test_a_break_does_not_touch_what_is_issued_behind_it(self):
        code = code_of("a = six / a = six / a = six / -")
        self.assertEqual(landings(code, W, (1,)), ((1, 6, 0, 0, "a"), (7, 7, 1, 0, "a"), (8, 8, 2, 0, "a")))
        self.assertEqual(landings(code, W, (1, 2, 3)), ((1, 6, 0, 0, "a"), (2, 7, 1, 0, "a"), (3, 8, 2, 0, "a")))
        self.assertEqual([writer(code, W, step, "a", (2,)) for step in range(5)], [None, None, (1, 0), (1, 0), (1, 0)])

    def test_writes_that_land_at_one_break(self):
        # In the order of their landings, not in the order in which they are issued.
        code = code_of("a = six ; a = one / a = three / a = one ; a = two / -")
        self.assertEqual(writer(code, W, 3, "a", (3,)), (0, 0))
        self.assertEqual(writer(code, W, 3, "a", (1, 3)), (2, 1))
        self.assertEqual(writer(code, W, 3, "a"), (2, 0))
        self.assertEqual(writer(code, W, 4, "a"), (2, 1))
        # A landing that a break brings about is at the break, not at its own time.
        code = code_of("a = six / a = one / - / send a")
        self.assertEqual(writer(code, W, 3, "a", (1,)), (1, 0))
        self.assertEqual(writer(code, W, 3, "a", (2,)), (0, 0))

    def test_of_equal_pairs_the_last_one_is_seen(self):
        code = code_of("a = three / a = two / a = one / send a")
        self.assertEqual(writer(code, W, 3, "a"), (2, 0))
        self.assertEqual(writer(code, W, 3, "a", (2,)), (2, 0))
        self.assertEqual(writer(code, W, 2, "a", (2,)), (1, 0))
        code = code_of("a = two / b = two ; a = one / send a")
        self.assertEqual(writer(code, (0, 1, 2), 2, "a"), (1, 1))

    def test_a_way_of_more_than_a_thousand_rows(self):
        way = W * 700
        self.assertEqual(writer(D, way, 2797, "r"), (2792, 0))
        self.assertEqual(writer(D, way, 2797, "r", (2797,)), (2796, 0))
        moments = tuple(step for step in range(1, 2800) if step % 4 != 3)
        found = landings(D, way, moments)
        self.assertEqual((len(found), found[0], found[-1]), (700, (1, 5, 0, 0, "r"), (2797, 2801, 2796, 0, "r")))
        with self.assertRaises(InvalidWay) as caught:
            landings(D, way + (1,))
        self.assertEqual(caught.exception.index, 2800)
        with self.assertRaises(InvalidBreaks) as caught:
            landings(D, way, moments + (2800,))
        self.assertEqual(caught.exception.index, len(moments))

    def test_codes_with_a_clash_or_too_many_points_are_played(self):
        code = clashing(GOALS_801, 3)
        self.assertRaises(TooMany, clash, code)
        self.assertEqual(landings(code, (0,)), ((6, 6, 0, 0, "a"),))
        self.assertEqual(writer(code, (0,), 1, "a"), None)


class WrongTest(unittest.TestCase):

    def asked(self, code, way, *more):
        yield lambda: landings(code, way, *more)
        yield lambda: writer(code, way, 0, "r", *more)
        # What is wrong with the step and the name is told behind that.
        yield lambda: writer(code, way, 99, None, *more)

    def wrong_way(self, code, way, index, *more):
        for ask in self.asked(code, way, *more):
            with self.assertRaises(InvalidWay) as caught:
                ask()
            self.assertEqual(caught.exception.index, index)

    def wrong_breaks(self, way, breaks, index):
        for ask in self.asked(D, way, breaks):
            with self.assertRaises(InvalidBreaks) as caught:
                ask()
            self.assertEqual(caught.exception.index, index, breaks)

    def test_what_is_no_way(self):
        for way, index in [((1,), 0), ((-1,), 0), ((4,), 0), ((False,), 0), ((None, 1), 0), ((0, 0), 1), ((0, 2), 1),
                           ((0, True), 1), ((0, 1, 2, 3, 4), 4), ((0, 1, 2, 3, 1), 4), ((0, 1, 2, 0), 3),
                           ((0, 1, 2, 3, 0, 1, 2, 3, False), 8), ((0, 1, "2"), 2), ((0, 1, (2,)), 2), ((0, 9, 9), 1),
                           ((0, 1, 2, 4), 3), ((0, 1, 2, -1), 3), (((0,),), 0), ((0, 1, D), 2)]:
            self.wrong_way(D, way, index)
            self.wrong_way(D, way, index, 5)
            self.wrong_way(D, way, index, (0,))
        for value in odd_values() + ["0", [0, 1], range(2), {0: 0}]:
            if value != ():
                self.wrong_way(D, value, 4 if value == tuple(range(2000)) else 0)

    def test_what_are_no_breaks(self):
        for breaks, index in [((0,), 0), ((4,), 0), ((-1,), 0), ((3,), 0), ((99,), 0), ((True,), 0), ((None,), 0), (("1",), 0),
                              (((1,),), 0), ((1, 1), 1), ((2, 1), 1), ((1, 2, 2), 2), ((1, 2, 3), 2), ((1, 2, 4), 2),
                              ((1, 0), 1), ((1, True), 1), ((1, None), 1), ((2, 2, 9), 1), ((1, 2, D), 2), ((3, 2), 0)]:
            self.wrong_breaks(W, breaks, index)
            self.wrong_breaks(W, list(breaks), index)
        self.wrong_breaks(W * 2, (1, 4, 7), 2)
        self.wrong_breaks(W * 2, (1, 4, 8), 2)
        self.wrong_breaks(W * 2, (1, 4, 6, 5), 3)
        self.wrong_breaks((), (0,), 0)
        self.wrong_breaks((), [1], 0)
        self.wrong_breaks((0,), (1,), 0)
        for value in odd_values() + ["1", {1: 1}, range(1, 2)]:
            if value not in ((), []):
                self.wrong_breaks(W, value, 0)
        self.assertEqual(len(landings(D, W, [1, 2])), 1)
        self.assertEqual(len(landings(D, W * 2, (1, 2, 4, 5, 6))), 2)

    def test_what_is_no_step(self):
        for value in [5, -1, 99] + odd_values() + ["0", (0,)]:
            for name in ("r", "x", None):
                with self.assertRaises(NoStep) as caught:
                    writer(A, W, value, name)
                self.assertIs(caught.exception.step, value)
        for step in range(5):
            writer(A, W, step, "r")
        self.assertIs(writer(A, (), 0, "r"), None)
        self.assertRaises(NoStep, writer, A, (), 1, "r")

    def test_what_is_no_name(self):
        for value in ["x", "R", ("r",)] + odd_values():
            with self.assertRaises(NoName) as caught:
                writer(A, W, 4, value)
            self.assertIs(caught.exception.name, value)
        self.assertEqual(writer(code=A, way=W, step=4, name="r", breaks=()), (2, 0))

    def test_what_is_passed_stays_as_it_was(self):
        breaks = [1, 2]
        landings(D, W, breaks)
        writer(D, W, 4, "r", breaks)
        self.assertEqual((breaks, str(D)), ([1, 2], "r = slow\nsend r\ngo 0 c\n-"))


class ClashTest(unittest.TestCase):

    def test_codes_without_a_clash(self):
        for code in (A, D, L, code_of("-"), code_of("a = six / a = six"), code_of("a = two / b = one"),
                     code_of("a = three / a = one / send a"), code_of("a = one / a = two"),
                     # Where the way parts, only one of both writes is done.
                     code_of("go 3 c / a = two / go 4 / a = three / send a")):
            self.assertIsNone(oracle.clash(code, 8))
            self.assertIsNone(clash(code))

    def test_clashes(self):
        for text, way, name in [("a = two / a = one", (0, 1), "a"), ("a = three / - / a = one", (0, 1, 2), "a"),
                                ("a = six / - / - / - / - / a = one", (0, 1, 2, 3, 4, 5), "a"),
                                ("b = two ; c = two / c = one ; b = one", (0, 1), "b"),
                                ("send z / b = two ; a = three / b = one / a = one", (0, 1, 2), "b"),
                                # By copies, and by jumps.
                                ("a = move c / a = keep c", (0, 1), "a"),
                                ("a = two ; go 3 c / send a / send a / a = one", (0, 3), "a"),
                                ("a = two / go 4 c / - / send b / a = one", None, None),
                                ("a = three / go 4 c / - / send b / a = one", (0, 1, 4), "a"),
                                # Round a loop.
                                ("a = one ; go 2 / - / a = two ; go 0 c", (0, 2, 0), "a"),
                                ("send b / a = one / a = three / go 1 c", (0, 1, 2, 3, 1), "a"),
                                ("a = one ; b = two / go 0 c", None, None),
                                ("a = one ; a = two ; go 0 c", (0, 0), "a"),
                                # The write would have to be done at no step later, or by no row.
                                ("a = two / send a / a = one", None, None),
                                ("a = one / a = one / a = two", None, None)]:
            code = code_of(text)
            found = clash(code)
            self.assertEqual(found, None if way is None else (way, name), text)
            self.assertEqual(clash(code=code), found)

    def test_behind_the_end(self):
        # Nobody reads it, and the way has no row at which both land.
        self.assertEqual(clash(code_of("a = six / a = six ; a = three / send a / a = two")), None)
        self.assertEqual(clash(code_of("a = six / a = two ; send a / send a / a = three")), ((0, 1, 2, 3), "a"))

    def test_rows_to_which_no_way_leads(self):
        self.assertIs(clash(code_of("go 3 / a = two / a = one / send b")), None)
        self.assertEqual(clash(code_of("go 2 / a = two / a = two / a = one")), ((0, 2, 3), "a"))

    def test_with_late_rows(self):
        text = "a = three ; go 3 / - / b = one / a = one"
        self.assertEqual([clash(code_of(text, late)) for late in (0, 1, 2)], [None, ((0, 1, 3), "a"), None])
        self.assertEqual(clash(code_of("a = two ; go 3 / a = one / b = one / a = one", late=1)), ((0, 1), "a"))
        self.assertEqual(clash(code_of("a = two ; go 3 / a = one / b = one / a = one", late=0)), ((0, 3), "a"))

    def test_clashes_of_many_codes(self):
        many = 0
        for code in oracle.random_codes(9, 300, 5):
            found = clash(code)
            if found is None:
                self.assertIs(oracle.clash(code, len(code) + 5), None)
                continue
            many += 1
            way, name = found
            self.assertTrue(is_way(code, way))
            self.assertEqual(oracle.clashes(code, way)[0], name)
            self.assertEqual(oracle.clash(code, len(way)), len(way))
        self.assertGreater(many, 30)

    def test_too_many_points(self):
        for code in (jumping(GOALS_801), clashing(GOALS_801, 3), clashing(GOALS_801, 5)):
            with self.assertRaises(TooMany) as caught:
                clash(code)
            self.assertEqual(caught.exception.most, 800)
        self.assertIs(clash(jumping(GOALS_800)), None)
        for late in (3, 4, 5):
            code = clashing(GOALS_800, late)
            self.assertEqual(len(list(points(code))), 800)
            self.assertEqual(clash(code)[1], "a")


if __name__ == "__main__":
    unittest.main()
