import sys
import unittest

from latelands.alike import alike, classes, name_before, names, stands_for
from latelands.codes import Code
from latelands.errors import Clash, NoName, NoPoint, TooMany
from latelands.landings import clash
from latelands.ways import is_way, points, points_after, points_before
from tests import oracle
from tests.helpers import A, A_TEXT, D, GOALS_800, GOALS_801, L, M, clashing, code_of, jumping, odd_values, slow_code

P = (0, 1, 2, 3)


def by(back, index):
    return ("by", back, index)


def held(name):
    return ("in", name)


def codes_without_clash(seed, many, most_rows=5):
    found = [code for code in oracle.random_codes(seed, many, most_rows) if clash(code) is None]
    return [A, D] + [code for code in found if len(list(points(code))) <= 40]


class NamesTest(unittest.TestCase):

    def test_the_examples(self):
        shown = [names(A, (0, 1)), classes(A, P), stands_for(A, P + (4,), held("r")),
                 name_before(A, P, P + (4,), held("r"))]
        self.assertEqual(shown, [(by(1, 0), held("r"), held("s")), ((by(1, 0),), (by(3, 0), held("r"), held("s"))),
                                 by(2, 0), by(1, 0)])

    def test_names_of_many_codes(self):
        for code in codes_without_clash(11, 60):
            for point in points(code):
                found = names(code=code, point=point)
                self.assertEqual(found, tuple(oracle.names(code, point)))
                for name in found:
                    self.assertEqual(stands_for(code=code, point=point, name=name), oracle.stands_for(code, point, name))
                for before in points_before(code, point):
                    for name in found:
                        self.assertEqual(name_before(code=code, point=before, following=point, name=name),
                                         oracle.was(code, point, name))

    def test_a_name_stands_for_what_lands_just_now(self):
        code = code_of("a = two ; b = one ; c = six / c = keep b / - / send a")
        self.assertEqual([stands_for(code, (0, 1), held(name)) for name in "abc"], [held("a"), by(1, 1), held("c")])
        self.assertEqual([stands_for(code, (0, 1, 2), held(name)) for name in "abc"], [by(2, 0), held("b"), by(1, 0)])
        self.assertEqual([stands_for(code, P, held(name)) for name in "abc"], [held(name) for name in "abc"])
        self.assertEqual(stands_for(code, P, by(2, 0)), by(2, 0))
        self.assertEqual(stands_for(code, (0, 1), by(1, 1)), by(1, 1))

    def test_what_names_were(self):
        code = code_of("a = two ; b = keep c ; c = six / c = one / - / send a")
        self.assertEqual([name_before(code, (0,), (0, 1), name) for name in names(code, (0, 1))],
                         # The results of row 0, of which b stands for the copy of c that lands.
                         [None, held("c"), None, held("a"), held("c"), held("c")])
        self.assertEqual([name_before(code, (0, 1), (0, 1, 2), name) for name in names(code, (0, 1, 2))],
                         [None, by(1, 0), by(1, 1), by(1, 2), by(1, 0), held("b"), None])

    def test_errors(self):
        for value in [(1,), (0, 2), (0, True), [0], (0, 1, 2, 3, 4, 4)] + odd_values():
            for ask in (lambda: names(A, value), lambda: classes(A, value), lambda: stands_for(A, value, None),
                        lambda: name_before(A, value, None, None), lambda: alike(A, value, None, None)):
                with self.assertRaises(NoPoint) as caught:
                    ask()
                self.assertIs(caught.exception.point, value)

    def test_no_following_point(self):
        for value in [(0,), (0, 1), P, (0, 1, True), (0, 2), [0, 1, 2]] + odd_values():
            with self.assertRaises(NoPoint) as caught:
                name_before(A, (0, 1), value, None)
            self.assertIs(caught.exception.point, value)
        code = code_of("a = one ; go 0 c")
        self.assertEqual(name_before(code, (0, 0), (0, 0), held("c")), held("c"))
        self.assertEqual(points_after(code, (0, 0)), ((0, 0), (0, 1)))
        for value in ((0, False), (False, 0), (0, True)):
            with self.assertRaises(NoPoint):
                name_before(code, (0, 0), value, held("c"))
        with self.assertRaises(NoPoint) as caught:
            name_before(D, (0, 1, 2), (0, 1, 2, 3, 0), held("r"))
        self.assertEqual(caught.exception.point, (0, 1, 2, 3, 0))

    def no_names(self):
        """Values that are no names at the points (0, 1) and P of A."""
        return [held("t"), held(""), held(1), held(("r",)), ("in",), ("in", "r", "r"), ["in", "r"], "r", ("on", "r"),
                by(0, 0), by(4, 0), by(-1, 0), by(1, 1), by(1, -1), by(2, 0), by(True, 0), by(1, False), ("by", 1),
                ("by", 1, 0, 0), ["by", 1, 0], ("by", "1", 0), ("by", 1, None), ("by", (1,), 0)] + odd_values()

    def test_no_name(self):
        for value in self.no_names():
            for point in ((0, 1), P):
                for ask in (lambda: stands_for(A, point, value), lambda: alike(A, point, value, None),
                            lambda: alike(A, point, held("r"), value), lambda: alike(A, point, value, value),
                            lambda: name_before(A, point[:-1], point, value)):
                    with self.assertRaises(NoName) as caught:
                        ask()
                    self.assertIs(caught.exception.name, value)
        with self.assertRaises(NoName) as caught:
            alike(A, P, held("x"), held("y"))
        self.assertEqual(caught.exception.name, held("x"))
        # The name must be one at the following point, not at the point.
        with self.assertRaises(NoName):
            name_before(D, (0, 1, 2), P, by(2, 0))
        self.assertEqual(name_before(D, (0, 1, 2), P, by(3, 0)), by(2, 0))

    def test_operations_without_a_target_have_no_name(self):
        code = code_of("send a ; b = two ; go 0 c")
        self.assertEqual(names(code, (0, 1)), (by(1, 1), held("a"), held("b"), held("c")))
        for index in (0, 2, 3):
            self.assertRaises(NoName, stands_for, code, (0, 1), by(1, index))


class AlikeTest(unittest.TestCase):

    def test_the_examples(self):
        shown = [alike(A, P, by(1, 0), held("r")), alike(A, (0, 1), held("r"), by(1, 0))[0],
                 alike(A, (0,), held("r"), held("r"))]
        self.assertEqual(shown, [("unlike", (0, 1, 2)), "alike", ("alike", ())])
        with self.assertRaises(NoPoint) as caught:
            alike(A, (0, 2), held("r"), held("q"))
        self.assertEqual(caught.exception.point, (0, 2))

    def told(self, code, point, one, other):
        """What alike tells, after its table or its way was looked at."""
        kind, paper = alike(code, point, one, other)
        self.assertEqual(alike(code=code, point=point, one=other, other=one), (kind, paper))
        self.assertIs(type(paper), tuple)
        if kind == "unlike":
            self.assertTrue(is_way(code, paper))
            self.assertIn(point, oracle.points_of_way(code, paper))
            self.assertNotEqual(oracle.value(code, paper, one), oracle.value(code, paper, other))
            return kind, paper
        self.assertEqual(kind, "alike")
        self.assertEqual(list(paper), sorted(set(paper)))
        self.assertTrue(oracle.holds(code, paper, list(points(code))), paper)
        self.assertEqual((point, min(one, other), max(one, other)) in paper, one != other)
        return kind, paper

    def test_alike_in_many_codes(self):
        kinds = []
        for code in codes_without_clash(12, 100, 4):
            leading = {}
            for way in oracle.ways_up_to(code, len(code) + code.reach + 1 if len(code) < 5 else 7):
                for point in oracle.points_of_way(code, way):
                    leading.setdefault(point, []).append(way)
            for point in list(points(code))[-6:]:
                kinds.extend(self.hold(code, point, leading.get(point, [])))
        self.assertGreater(kinds.count("alike"), 300)
        self.assertGreater(kinds.count("unlike"), 300)

    def hold(self, code, point, known):
        """Each two names at the point held against all known ways that lead to it."""
        found = names(code, point)
        values = [(len(way), [oracle.value(code, way, name) for name in found]) for way in known]
        where = {name: at for at, names_alike in enumerate(classes(code, point)) for name in names_alike}
        for at, one in enumerate(found):
            for place, other in enumerate(found[:at + 1]):
                kind, paper = self.told(code, point, one, other)
                lengths = [rows for rows, each in values if each[at] != each[place]]
                if kind == "alike":
                    self.assertEqual(lengths, [])
                else:
                    self.assertEqual(min(lengths, default=len(paper)), len(paper))
                    self.assertTrue(lengths or len(paper) > max(rows for rows, _ in values))
                self.assertEqual(where[one] == where[other], kind == "alike")
                yield kind

    def test_one_name(self):
        for point in points(A):
            for name in names(A, point):
                self.assertEqual(alike(A, point, name, name), ("alike", ()))

    def test_two_names_that_stand_for_one(self):
        self.assertEqual(self.told(A, P + (4,), by(2, 0), held("r")),
                         ("alike", ((P + (4,), by(2, 0), held("r")),)))

    def test_alike_by_a_group(self):
        self.assertEqual(self.told(A, (0,), held("s"), held("r")), ("alike", (((0,), held("r"), held("s")),)))
        code = Code.of(M, A.rows)
        self.assertEqual(self.told(code, (0,), held("r"), held("s")), ("unlike", ()))
        self.assertEqual(self.told(code, P, held("r"), held("s")), ("unlike", (0, 1, 2)))
        code = code_of("alike a c / alike b d / send a b ; send c d")
        self.assertEqual(classes(code, (0,)), ((held("a"), held("c")), (held("b"), held("d"))))
        self.assertEqual(classes(code, (0, 1)), classes(code, (0,)))

    def test_alike_by_copies(self):
        # Both copies read one value; what c was before is gone.
        code = code_of("a = keep c / b = keep a ; c = one / send b")
        self.assertEqual(self.told(code, (1, 2), by(1, 0), held("a"))[0], "alike")
        self.assertEqual(classes(code, (1, 2)), ((by(1, 0), held("a"), held("b")), (by(1, 1), held("c"))))
        self.assertEqual(self.told(code, (1, 2), held("a"), held("c")), ("unlike", (0, 1)))

    def test_alike_by_a_landing(self):
        code = code_of("a = two / b = move a / send b / send b")
        # The copy is read before the result lands, so it is the old value.
        self.assertEqual(self.told(code, (0, 1, 2), by(1, 0), held("a")), ("unlike", (0, 1)))
        code = code_of("a = two / - / b = keep a / send b")
        self.assertEqual(self.told(code, (1, 2, 3), by(1, 0), held("a"))[0], "alike")
        self.assertEqual(self.told(code, (1, 2, 3), held("b"), held("a"))[0], "alike")

    def test_round_a_loop(self):
        # In each turn b gets the value that a keeps.
        code = code_of("alike a b c / b = keep a ; go 0 d / send a b ; send c")
        self.assertEqual(classes(code, (0, 1)), ((by(1, 0), held("a"), held("b"), held("c")), (held("d"),)))
        # Each turn takes the values one place on, so they differ only after some turns.
        code = code_of("alike a b c / a = keep b ; b = keep c ; c = keep d / go 0 d")
        self.assertEqual(self.told(code, (1, 0), held("b"), held("a")), ("unlike", (0, 1, 0, 1)))
        self.assertEqual(self.told(code, (1, 0), held("b"), held("c")), ("unlike", (0, 1)))
        self.assertEqual(self.told(code, (1, 2), held("c"), held("d"))[0], "alike")
        code = code_of("alike a b / a = keep b ; b = keep a / go 0 c")
        self.assertEqual(self.told(code, (1, 0), held("a"), held("b"))[0], "alike")

    def test_the_shortest_of_several_ways(self):
        # The way over row 1 is longer, but the one over row 2 makes both alike.
        code = code_of("go 3 c / send a / go 4 / a = keep b / send a b")
        self.assertEqual(self.told(code, (2, 4), held("a"), held("b")), ("unlike", (0, 1, 2)))
        self.assertEqual(self.told(code, (3, 4), held("a"), held("b"))[0], "alike")
        self.assertEqual(self.told(code, (4, 5), held("a"), held("b")), ("unlike", (0, 1, 2, 4)))

    def test_a_long_way_that_parts_late_is_not_taken(self):
        # Over row 3 the names are unlike just before the point, but from row 0 on over row 4.
        code = code_of("go 4 c / send b / send b / a = one ; go 6 / send b / send b / send a")
        self.assertEqual(self.told(code, (6, 7), held("a"), held("b")), ("unlike", (0, 4, 5, 6)))

    def test_a_long_way_near_the_start_is_not_taken(self):
        # Two turns of the first rows make the names unlike, and one row more does it without them.
        code = code_of("alike a b c / a = keep b ; b = keep c ; c = keep d / go 0 x / go 4 x / a = one / send a b")
        self.assertEqual(self.told(code, (4, 5), held("a"), held("b")), ("unlike", (0, 1, 2, 3, 4)))

    def test_classes_of_the_examples(self):
        self.assertEqual(classes(D, (3, 0, 1, 2, 3, 0)), ((by(4, 0),), (held("c"),), (held("r"),)))
        self.assertEqual(classes(code=D, point=(1, 2, 3, 0, 1, 2)), ((by(2, 0),), (held("c"),), (held("r"),)))
        self.assertEqual(classes(D, (0, 1, 2, 3, 0, 1)), ((by(1, 0),), (by(5, 0), held("r")), (held("c"),)))

    def test_too_many_points_then_a_clash_come_first(self):
        asks = (lambda code: names(code, 5), lambda code: stands_for(code, 5, 5), lambda code: name_before(code, 5, 5, 5),
                lambda code: alike(code, 5, 5, 5), lambda code: classes(code, 5), lambda code: names(code, (0,)),
                lambda code: alike(code, (0,), held("a"), held("a")))
        for ask in asks:
            for code in (jumping(GOALS_801), clashing(GOALS_801, 3)):
                with self.assertRaises(TooMany) as caught:
                    ask(code)
                self.assertEqual(caught.exception.most, 800)
            for code in (clashing(GOALS_800, 4), code_of("b = two ; a = two / a = one ; b = one")):
                with self.assertRaises(Clash) as caught:
                    ask(code)
                self.assertEqual((caught.exception.way, caught.exception.name), clash(code))
        self.assertEqual(names(jumping(GOALS_800), (0,)), (held("a"), held("c")))

    def test_what_is_passed_stays_as_it_was(self):
        point, one = (0, 1), by(1, 0)
        alike(A, point, one, held("r"))
        classes(A, point)
        self.assertEqual((point, one, str(A), A), ((0, 1), by(1, 0), A_TEXT, Code.read(M, A_TEXT)))
        self.assertEqual(alike(A, P, held("r"), held("s")), alike(A, P, held("r"), held("s")))

    def test_a_code_with_many_ways(self):
        self.assertIsNone(clash(L))
        for point in list(points(L))[::40]:
            for name in names(L, point):
                self.told(L, point, name, held("s"))


class SlowTest(unittest.TestCase):
    """A code with many points, of which the same is asked again and again."""

    def test_the_answers(self):
        code = slow_code()
        known = list(points(code))
        self.assertEqual(len(known), 671)
        point = known[335]
        # Ahead of other questions, behind them, and of another code that is equal.
        told = [alike(each, point, held("r"), held("s")) for each in (code, code, slow_code())]
        self.assertEqual(told[0], told[1])
        self.assertEqual(told[0], told[2])
        kind, table = told[0]
        self.assertEqual((kind, list(table)), ("alike", sorted(set(table))))
        self.assertIn((point, held("r"), held("s")), table)
        self.assertTrue(oracle.holds(code, table, known))
        told = [alike(each, point, held("c"), held("s")) for each in (code, code, slow_code())]
        self.assertEqual(told, [told[0]] * 3)
        kind, way = told[0]
        self.assertEqual(kind, "unlike")
        self.assertTrue(is_way(code, way))
        self.assertIn(point, oracle.points_of_way(code, way))
        self.assertNotEqual(oracle.value(code, way, held("c")), oracle.value(code, way, held("s")))
        self.assertEqual(len(way), len(code.reached[point[0]]) + len(point) - 2)

    def test_all_points(self):
        code = slow_code()
        known = list(points(code))
        for point in known[::60]:
            for one in names(code, point):
                for other in names(code, point):
                    kind, paper = alike(code, point, one, other)
                    if kind == "unlike":
                        self.assertTrue(is_way(code, paper) and point in oracle.points_of_way(code, paper))
                        self.assertNotEqual(oracle.value(code, paper, one), oracle.value(code, paper, other))
                    elif one < other:
                        self.assertIn((point, one, other), paper)
        for point in known[::200]:
            kind, table = alike(code, point, held("t"), held("u"))
            self.assertTrue(kind == "alike" and oracle.holds(code, table, known))

    def test_what_was_found_is_not_found_anew(self):
        code = slow_code()
        point = list(points(code))[335]
        for one, calls in ((held("r"), 25000), (held("c"), 600)):
            first = self.calls_of(lambda: alike(code, point, one, held("s")))
            again = self.calls_of(lambda: alike(code, point, one, held("s")))
            self.assertLess(again, calls)
            self.assertLessEqual(again, first)

    def calls_of(self, ask):
        """How many functions are called to answer: unlike the time it is the same on each machine."""
        seen = []
        sys.setprofile(lambda frame, event, arg: seen.append(event))
        try:
            ask()
        finally:
            sys.setprofile(None)
        return len([event for event in seen if event in ("call", "c_call")])


if __name__ == "__main__":
    unittest.main()
